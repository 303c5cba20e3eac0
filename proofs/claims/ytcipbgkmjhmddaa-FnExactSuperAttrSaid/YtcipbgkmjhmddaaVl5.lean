/- Part 5 of the texts that the proof of FnExactSuperAttr is built on. -/
import Derived.Test.YtcipbgkmjhmddaaVl4
namespace Go.Vl
set_option linter.unusedVariables false
set_option linter.unusedSimpArgs false
open Go.Proofs

structure FoundM where
  how : Int
  owner : Int
  value : Int
  self : Int
  deriving Inhabited, DecidableEq
abbrev foundP (f : FoundM) : PV := .agg [.int .i64 f.how, .int .i64 f.owner, .int .i64 f.value, .int .i64 f.self]
def none0 : FoundM := ⟨0, -1, -1, -1⟩
abbrev memP (o : Int) (a : AttrM) : PV := .agg [.int .i64 o, .int .i64 a.name, .int .i64 a.kind, .int .i64 a.value]
def bindM (ow : Int) (a : AttrM) (obj c : Int) : FoundM :=
  if a.kind = 1 then ⟨if 0 ≤ obj then 3 else 2, ow, a.value, obj⟩
  else if a.kind = 4 then ⟨3, ow, a.value, c⟩
  else if (a.kind = 2 ∨ a.kind = 3) ∧ 0 ≤ obj then ⟨4, ow, a.value, obj⟩
  else ⟨2, ow, a.value, -1⟩
def getR (ow : Int) (a : AttrM) (z pv x cls : Int) : FoundM :=
  if 0 ≤ ow ∧ (a.kind = 2 ∨ a.kind = 3) then bindM ow a x cls else if 0 ≤ z then ⟨1, -1, pv, x⟩ else if 0 ≤ ow then bindM ow a x cls else none0
def getM (w : WorldM) (x : Nat) (name : Int) : FoundM :=
  getR (fnd w.attrs name (ordM w.bases (w.objs.getD x ⟨0, []⟩).cls.toNat)).1 (fnd w.attrs name (ordM w.bases (w.objs.getD x ⟨0, []⟩).cls.toNat)).2 (findM name (nms (w.objs.getD x ⟨0, []⟩).pairs) 0)
    ((w.objs.getD x ⟨0, []⟩).pairs.getD (findM name (nms (w.objs.getD x ⟨0, []⟩).pairs) 0).toNat (0, 0)).2 x (w.objs.getD x ⟨0, []⟩).cls
def hasO (w : WorldM) (x : Int) : Prop := VWorld w ∧ 0 ≤ x ∧ x ≤ (w.objs.length : Int) - 1
instance (w : WorldM) (x : Int) : Decidable (hasO w x) := by unfold hasO; exact inferInstance
def getAttrM (w : WorldM) (x name : Int) : FoundM := if hasO w x then getM w x.toNat name else none0
def getClsM (w : WorldM) (c name : Int) : FoundM := if 0 ≤ (fndM w c name).1 then bindM (fndM w c name).1 (fndM w c name).2 (-1) c else none0
def bindO (r : Int × AttrM) (x c : Int) : FoundM := if 0 ≤ r.1 then bindM r.1 r.2 x c else none0
def superM (w : WorldM) (x beh name : Int) : FoundM := if hasO w x then bindO (fnd w.attrs name (rstM (ordM w.bases (w.objs.getD x.toNat ⟨0, []⟩).cls.toNat) beh)) x (w.objs.getD x.toNat ⟨0, []⟩).cls else none0
theorem hasO_cls {w : WorldM} {x : Int} (h : hasO w x) : 0 ≤ (w.objs.getD x.toNat ⟨0, []⟩).cls ∧ (w.objs.getD x.toNat ⟨0, []⟩).cls ≤ (w.bases.length : Int) - 1 := by
  have h2 := h.1.2.2.2.2 _ (getD_mem (show x.toNat < w.objs.length by have := h.2; omega) ⟨0, []⟩)
  unfold okObj at h2; exact h2.1
theorem fr_eq {f : Bool} {a b : FoundM} (h : a = b) : [SV.pv f (foundP a)] = [SV.pv f (foundP b)] := by rw [h]

/-- A member of a class: one of six types. -/
def MemIs (ow : Int) (a : AttrM) (p : PV) : Prop := (ow < 0 ∧ p = .ifc 178 (.agg [])) ∨ ((0 ≤ ow ∧ a.kind ≠ 1 ∧ a.kind ≠ 2 ∧ a.kind ≠ 3 ∧ a.kind ≠ 4) ∧ p = .ifc 180 (memP ow a)) ∨ ((0 ≤ ow ∧ a.kind = 1) ∧ p = .ifc 182 (memP ow a)) ∨
  ((0 ≤ ow ∧ a.kind = 3) ∧ p = .ifc 183 (memP ow a)) ∨ ((0 ≤ ow ∧ a.kind = 2) ∧ p = .ifc 185 (memP ow a)) ∨ ((0 ≤ ow ∧ a.kind = 4) ∧ p = .ifc 186 (memP ow a))
theorem mth178_byObject : MethAt Try.prog 178 "loop.example/objectmodel/impl.byObject" (.agg []) 211 (.agg []) := by
  intro w G v h
  cases h with
  | agg _ vs hl h1 h =>
    obtain ⟨l⟩ := vs
    match l, hl with
    | [], hl => exact ⟨.agg #[], by kernel_rfl, .agg _ _ rfl h1 h⟩
theorem mth180_byObject (c0 c1 c2 c3 : PV) : MethAt Try.prog 180 "loop.example/objectmodel/impl.byObject" (.agg [c0, c1, c2, c3]) 213 (.agg [c0, c1, c2, c3]) := by
  intro w G v h
  cases h with
  | agg _ vs hl h1 h =>
    obtain ⟨l⟩ := vs
    match l, hl with
    | [v0, v1, v2, v3], hl => exact ⟨.agg #[v0, v1, v2, v3], by kernel_rfl, .agg _ _ rfl h1 h⟩
theorem mth182_byObject (c0 c1 c2 c3 : PV) : MethAt Try.prog 182 "loop.example/objectmodel/impl.byObject" (.agg [c0, c1, c2, c3]) 215 (.agg [c0, c1, c2, c3]) := by
  intro w G v h
  cases h with
  | agg _ vs hl h1 h =>
    obtain ⟨l⟩ := vs
    match l, hl with
    | [v0, v1, v2, v3], hl => exact ⟨.agg #[v0, v1, v2, v3], by kernel_rfl, .agg _ _ rfl h1 h⟩
theorem mth183_byObject (c0 c1 c2 c3 : PV) : MethAt Try.prog 183 "loop.example/objectmodel/impl.byObject" (.agg [c0, c1, c2, c3]) 216 (.agg [c0, c1, c2, c3]) := by
  intro w G v h
  cases h with
  | agg _ vs hl h1 h =>
    obtain ⟨l⟩ := vs
    match l, hl with
    | [v0, v1, v2, v3], hl => exact ⟨.agg #[v0, v1, v2, v3], by kernel_rfl, .agg _ _ rfl h1 h⟩
theorem mth185_byObject (c0 c1 c2 c3 : PV) : MethAt Try.prog 185 "loop.example/objectmodel/impl.byObject" (.agg [c0, c1, c2, c3]) 216 (.agg [c0, c1, c2, c3]) := by
  intro w G v h
  cases h with
  | agg _ vs hl h1 h =>
    obtain ⟨l⟩ := vs
    match l, hl with
    | [v0, v1, v2, v3], hl => exact ⟨.agg #[v0, v1, v2, v3], by kernel_rfl, .agg _ _ rfl h1 h⟩
theorem mth186_byObject (c0 c1 c2 c3 : PV) : MethAt Try.prog 186 "loop.example/objectmodel/impl.byObject" (.agg [c0, c1, c2, c3]) 220 (.agg [c0, c1, c2, c3]) := by
  intro w G v h
  cases h with
  | agg _ vs hl h1 h =>
    obtain ⟨l⟩ := vs
    match l, hl with
    | [v0, v1, v2, v3], hl => exact ⟨.agg #[v0, v1, v2, v3], by kernel_rfl, .agg _ _ rfl h1 h⟩
theorem nms_lt {n : Int} {l : List (Int × Int)} : 0 ≤ findM n (nms l) 0 → findM n (nms l) 0 < l.length := fun h => by have := findM_ltL h; rw [nms_len] at this; exact this
theorem rst_in {n : Nat} {o : List Int} {x : Int} (h : OrdIn n o) : OrdIn n (rstM o x) := by
  unfold rstM
  split
  · exact ⟨Nat.lt_of_le_of_lt (by rw [List.length_drop]; omega) h.1, fun y hy => h.2 y (List.mem_of_mem_drop hy)⟩
  · exact ⟨by simp, fun y hy => by cases hy⟩

theorem foundNothing_sat    : SatAt Try.prog 89 [] [] (fun res rows => res = [.pv true (foundP none0)] ∧ rows = []) := by
  refine sat_entry_G (rs := [(0, some (60, 4))]) Try.func89 rfl rfl (Nat.le_of_ble_eq_true rfl) (Nat.le_of_ble_eq_true rfl) (resTs1 ⟨_, _, Try.underlying60, rfl, inf60, sz60⟩) fun C hC => ?_
  rw [Try.ntmps89]
  replace hC : C.nb = 0 := hC
  refine vc_seq fun K1 hK1 => ?_
  refine vc_region ?_
  refine vo_alloc Z60 rfl ?_
  refine vo_stM ?_
  refine vo_nil ?_
  refine hK1 _ ?_
  refine vc_seq fun K2 hK2 => ?_
  refine vc_region ?_
  refine vo_build S60 rfl rfl rfl ?_
  refine vo_stM ?_
  refine vo_store_varS rfl rfl rfl inf60 sz60 rfl ?_
  refine vo_stM ?_
  refine vo_nil ?_
  refine hK2 _ ?_
  refine vc_ret ?_
  change retQ _ _ _ _ _
  refine retQ_sel [] (srows := []) (.inr rfl) hC rfl rfl rfl rfl rfl rfl rfl ?_
  exact ⟨rfl, rfl⟩


theorem found_sat {o : Int} {a : AttrM} {how : Int} {self : Int} : SatAt Try.prog 214 [.pv false (memP o a), i64 how, i64 self] [] (fun res rows => res = [.pv true (foundP ⟨how, o, a.value, self⟩)] ∧ rows = []) := by
  refine sat_entry_G (rs := [(6, some (60, 4))]) Try.func214 rfl rfl (Nat.le_of_ble_eq_true rfl) (Nat.le_of_ble_eq_true rfl) (resTs1 ⟨_, _, Try.underlying60, rfl, inf60, sz60⟩) fun C hC => ?_
  rw [Try.ntmps214]
  replace hC : C.nb = 0 := hC
  refine vc_seq fun K1 hK1 => ?_
  refine vc_region ?_
  refine vo_box rfl rfl ?_
  refine vo_stM ?_
  refine vo_alloc Z60 rfl ?_
  refine vo_stM ?_
  refine vo_nil ?_
  refine hK1 _ ?_
  refine vc_seq fun K2 hK2 => ?_
  refine vc_region ?_
  refine vo_move_pv rfl rfl ?_
  refine vo_fieldAddr_ptr rfl rfl Try.underlying180 rfl inf3 (by rw [sz3]; decide) ?_
  try simp only [Nat.zero_add]
  refine vo_load_var rfl rfl rfl Try.underlying3 rfl rfl ?_
  refine vo_fieldAddr_ptr rfl rfl Try.underlying180 rfl inf73 (by rw [sz73]; decide) ?_
  try simp only [Nat.zero_add]
  refine vo_fieldAddr_ptr rfl rfl Try.underlying73 rfl inf3 (by rw [sz3]; decide) ?_
  try simp only [Nat.zero_add]
  refine vo_load_var rfl rfl rfl Try.underlying3 rfl rfl ?_
  refine vo_move_pv rfl rfl ?_
  refine vo_build S60 rfl rfl rfl ?_
  refine vo_stM ?_
  refine vo_store_varS rfl rfl rfl inf60 sz60 rfl ?_
  refine vo_stM ?_
  refine vo_nil ?_
  refine hK2 _ ?_
  refine vc_ret ?_
  change retQ _ _ _ _ _
  refine retQ_sel [] (srows := []) (.inr rfl) hC rfl rfl rfl rfl rfl rfl rfl ?_
  exact ⟨rfl, rfl⟩


theorem plainByObject_sat {o : Int} {a : AttrM} {x : Int} {c : Int} : SatAt Try.prog 213 [.pv false (memP o a), i64 x, i64 c] [] (fun res rows => res = [.pv true (foundP ⟨2, o, a.value, -1⟩)] ∧ rows = []) := by
  refine sat_entry_G (rs := [(6, some (60, 4))]) Try.func213 rfl rfl (Nat.le_of_ble_eq_true rfl) (Nat.le_of_ble_eq_true rfl) (resTs1 ⟨_, _, Try.underlying60, rfl, inf60, sz60⟩) fun C hC => ?_
  rw [Try.ntmps213]
  replace hC : C.nb = 0 := hC
  refine vc_seq fun K1 hK1 => ?_
  refine vc_region ?_
  refine vo_box rfl rfl ?_
  refine vo_stM ?_
  refine vo_alloc Z60 rfl ?_
  refine vo_stM ?_
  refine vo_nil ?_
  refine hK1 _ ?_
  refine vc_seq fun K2 hK2 => ?_
  refine vc_region ?_
  refine vo_load_varS rfl rfl rfl Try.underlying180 rfl inf180 sz180 rfl rfl ?_
  refine vo_call0 Try.func214 rfl rfl rfl rfl (found_sat (o := o) (a := a)) ?_
  rintro _ _ ⟨rfl, rfl⟩
  refine ⟨rfl, rfl, .inl rfl, ?_⟩
  refine vo_stM ?_
  refine vo_store_varS rfl rfl rfl inf60 sz60 rfl ?_
  refine vo_stM ?_
  refine vo_nil ?_
  refine hK2 _ ?_
  refine vc_ret ?_
  change retQ _ _ _ _ _
  refine retQ_sel [] (srows := []) (.inr rfl) hC rfl rfl rfl rfl rfl rfl rfl ?_
  exact ⟨rfl, rfl⟩


theorem methodByObject_sat {o : Int} {a : AttrM} {x : Int} {c : Int} : SatAt Try.prog 215 [.pv false (memP o a), i64 x, i64 c] [] (fun res rows => res = [.pv true (foundP ⟨3, o, a.value, x⟩)] ∧ rows = []) := by
  refine sat_entry_G (rs := [(6, some (60, 4))]) Try.func215 rfl rfl (Nat.le_of_ble_eq_true rfl) (Nat.le_of_ble_eq_true rfl) (resTs1 ⟨_, _, Try.underlying60, rfl, inf60, sz60⟩) fun C hC => ?_
  rw [Try.ntmps215]
  replace hC : C.nb = 0 := hC
  refine vc_seq fun K1 hK1 => ?_
  refine vc_region ?_
  refine vo_box rfl rfl ?_
  refine vo_stM ?_
  refine vo_alloc Z60 rfl ?_
  refine vo_stM ?_
  refine vo_nil ?_
  refine hK1 _ ?_
  refine vc_seq fun K2 hK2 => ?_
  refine vc_region ?_
  refine vo_fieldAddr_ptr rfl rfl Try.underlying182 rfl inf180 (by rw [sz180]; decide) ?_
  try simp only [Nat.zero_add]
  refine vo_load_varS rfl rfl rfl Try.underlying180 rfl inf180 sz180 rfl rfl ?_
  refine vo_move_pv rfl rfl ?_
  refine vo_call0 Try.func214 rfl rfl rfl rfl (found_sat (o := o) (a := a)) ?_
  rintro _ _ ⟨rfl, rfl⟩
  refine ⟨rfl, rfl, .inl rfl, ?_⟩
  refine vo_stM ?_
  refine vo_store_varS rfl rfl rfl inf60 sz60 rfl ?_
  refine vo_stM ?_
  refine vo_nil ?_
  refine hK2 _ ?_
  refine vc_ret ?_
  change retQ _ _ _ _ _
  refine retQ_sel [] (srows := []) (.inr rfl) hC rfl rfl rfl rfl rfl rfl rfl ?_
  exact ⟨rfl, rfl⟩


theorem classByObject_sat {o : Int} {a : AttrM} {x : Int} {c : Int} : SatAt Try.prog 220 [.pv false (memP o a), i64 x, i64 c] [] (fun res rows => res = [.pv true (foundP ⟨3, o, a.value, c⟩)] ∧ rows = []) := by
  refine sat_entry_G (rs := [(6, some (60, 4))]) Try.func220 rfl rfl (Nat.le_of_ble_eq_true rfl) (Nat.le_of_ble_eq_true rfl) (resTs1 ⟨_, _, Try.underlying60, rfl, inf60, sz60⟩) fun C hC => ?_
  rw [Try.ntmps220]
  replace hC : C.nb = 0 := hC
  refine vc_seq fun K1 hK1 => ?_
  refine vc_region ?_
  refine vo_box rfl rfl ?_
  refine vo_stM ?_
  refine vo_alloc Z60 rfl ?_
  refine vo_stM ?_
  refine vo_nil ?_
  refine hK1 _ ?_
  refine vc_seq fun K2 hK2 => ?_
  refine vc_region ?_
  refine vo_fieldAddr_ptr rfl rfl Try.underlying186 rfl inf180 (by rw [sz180]; decide) ?_
  try simp only [Nat.zero_add]
  refine vo_load_varS rfl rfl rfl Try.underlying180 rfl inf180 sz180 rfl rfl ?_
  refine vo_move_pv rfl rfl ?_
  refine vo_call0 Try.func214 rfl rfl rfl rfl (found_sat (o := o) (a := a)) ?_
  rintro _ _ ⟨rfl, rfl⟩
  refine ⟨rfl, rfl, .inl rfl, ?_⟩
  refine vo_stM ?_
  refine vo_store_varS rfl rfl rfl inf60 sz60 rfl ?_
  refine vo_stM ?_
  refine vo_nil ?_
  refine hK2 _ ?_
  refine vc_ret ?_
  change retQ _ _ _ _ _
  refine retQ_sel [] (srows := []) (.inr rfl) hC rfl rfl rfl rfl rfl rfl rfl ?_
  exact ⟨rfl, rfl⟩


theorem fixedByObject_sat {o : Int} {a : AttrM} {x : Int} {c : Int} : SatAt Try.prog 216 [.pv false (memP o a), i64 x, i64 c] [] (fun res rows => res = [.pv true (foundP ⟨4, o, a.value, x⟩)] ∧ rows = []) := by
  refine sat_entry_G (rs := [(6, some (60, 4))]) Try.func216 rfl rfl (Nat.le_of_ble_eq_true rfl) (Nat.le_of_ble_eq_true rfl) (resTs1 ⟨_, _, Try.underlying60, rfl, inf60, sz60⟩) fun C hC => ?_
  rw [Try.ntmps216]
  replace hC : C.nb = 0 := hC
  refine vc_seq fun K1 hK1 => ?_
  refine vc_region ?_
  refine vo_box rfl rfl ?_
  refine vo_stM ?_
  refine vo_alloc Z60 rfl ?_
  refine vo_stM ?_
  refine vo_nil ?_
  refine hK1 _ ?_
  refine vc_seq fun K2 hK2 => ?_
  refine vc_region ?_
  refine vo_fieldAddr_ptr rfl rfl Try.underlying183 rfl inf180 (by rw [sz180]; decide) ?_
  try simp only [Nat.zero_add]
  refine vo_load_varS rfl rfl rfl Try.underlying180 rfl inf180 sz180 rfl rfl ?_
  refine vo_move_pv rfl rfl ?_
  refine vo_call0 Try.func214 rfl rfl rfl rfl (found_sat (o := o) (a := a)) ?_
  rintro _ _ ⟨rfl, rfl⟩
  refine ⟨rfl, rfl, .inl rfl, ?_⟩
  refine vo_stM ?_
  refine vo_store_varS rfl rfl rfl inf60 sz60 rfl ?_
  refine vo_stM ?_
  refine vo_nil ?_
  refine hK2 _ ?_
  refine vc_ret ?_
  change retQ _ _ _ _ _
  refine retQ_sel [] (srows := []) (.inr rfl) hC rfl rfl rfl rfl rfl rfl rfl ?_
  exact ⟨rfl, rfl⟩


theorem noByObject_sat {x c : Int} : SatAt Try.prog 211 [.pv false (.agg []), i64 x, i64 c] [] (fun res rows => res = [.pv true (foundP none0)] ∧ rows = []) := by
  refine sat_entry_G (rs := [(6, some (60, 4))]) Try.func211 rfl rfl (Nat.le_of_ble_eq_true rfl) (Nat.le_of_ble_eq_true rfl) (resTs1 ⟨_, _, Try.underlying60, rfl, inf60, sz60⟩) fun C hC => ?_
  rw [Try.ntmps211]
  replace hC : C.nb = 0 := hC
  refine vc_seq fun K1 hK1 => ?_
  refine vc_region ?_
  refine vo_box rfl rfl ?_
  refine vo_stM ?_
  refine vo_alloc Z60 rfl ?_
  refine vo_stM ?_
  refine vo_nil ?_
  refine hK1 _ ?_
  refine vc_seq fun K2 hK2 => ?_
  refine vc_region ?_
  refine vo_call0 Try.func89 rfl rfl rfl rfl foundNothing_sat ?_
  rintro _ _ ⟨rfl, rfl⟩
  refine ⟨rfl, rfl, .inl rfl, ?_⟩
  refine vo_stM ?_
  refine vo_store_varS rfl rfl rfl inf60 sz60 rfl ?_
  refine vo_stM ?_
  refine vo_nil ?_
  refine hK2 _ ?_
  refine vc_ret ?_
  change retQ _ _ _ _ _
  refine retQ_sel [] (srows := []) (.inr rfl) hC rfl rfl rfl rfl rfl rfl rfl ?_
  exact ⟨rfl, rfl⟩


theorem memberOf_sat {ow : Int} {a : AttrM}   : SatAt Try.prog 99 [i64 ow, .pv false (attrP a)] [] (fun res rows => ∃ p, MemIs ow a p ∧ res = [.pv true p] ∧ rows = []) := by
  refine sat_entry_G (rs := [(4, none)]) Try.func99 rfl rfl (Nat.le_of_ble_eq_true rfl) (Nat.le_of_ble_eq_true rfl) (resTs1 trivial) fun C hC => ?_
  rw [Try.ntmps99]
  replace hC : C.nb = 0 := hC
  refine vc_seq fun K1 hK1 => ?_
  refine vc_region ?_
  refine vo_box rfl rfl ?_
  refine vo_stM ?_
  refine vo_assign rfl ?_
  refine vo_stM ?_
  refine vo_nil ?_
  refine hK1 _ ?_
  refine vc_seq fun K2 hK2 => ?_
  refine vc_seq fun K3 hK3 => ?_
  refine vc_region ?_
  refine vo_move_pv rfl rfl ?_
  refine vo_binI rfl rfl rfl rfl trivial ?_
  refine vo_nil ?_
  refine hK3 _ ?_
  refine vc_cond rfl (fun hc1 => ?_) (fun hc1 => ?_)
  · try simp only [decide_eq_true_eq, decide_eq_false_iff_not, beq_iff_eq, bne_iff_ne, beq_eq_false_iff_ne, bne_eq_false_iff_eq, Bool.not_eq_true, Bool.not_eq_false, Bool.not_eq_eq_eq_not, Bool.not_true, Bool.not_false, List.length_map, Int.not_lt, Int.not_le, ne_eq, Decidable.not_not] at hc1
    refine vc_seq fun K4 hK4 => ?_
    refine vc_region ?_
    refine vo_build S178 rfl rfl rfl ?_
    refine vo_stM ?_
    refine vo_makeIface rfl rfl Try.underlying178 rfl ?_
    refine vo_stM ?_
    refine vo_assign rfl ?_
    refine vo_stM ?_
    refine vo_nil ?_
    refine hK4 _ ?_
    refine vc_ret ?_
    change retQ _ _ _ _ _
    refine retQ_sel [] (srows := []) (.inr rfl) hC rfl rfl rfl rfl rfl rfl rfl ?_
    first
      | exact ⟨_, .inl ⟨by omega, rfl⟩, rfl, rfl⟩
      | exact ⟨_, .inr (.inr (.inl ⟨⟨by omega, by omega⟩, rfl⟩)), rfl, rfl⟩
      | exact ⟨_, .inr (.inr (.inr (.inl ⟨⟨by omega, by omega⟩, rfl⟩))), rfl, rfl⟩
      | exact ⟨_, .inr (.inr (.inr (.inr (.inl ⟨⟨by omega, by omega⟩, rfl⟩)))), rfl, rfl⟩
      | exact ⟨_, .inr (.inr (.inr (.inr (.inr ⟨⟨by omega, by omega⟩, rfl⟩)))), rfl, rfl⟩
      | exact ⟨_, .inr (.inl ⟨⟨by omega, by omega, by omega, by omega, by omega⟩, rfl⟩), rfl, rfl⟩
  · try simp only [decide_eq_true_eq, decide_eq_false_iff_not, beq_iff_eq, bne_iff_ne, beq_eq_false_iff_ne, bne_eq_false_iff_eq, Bool.not_eq_true, Bool.not_eq_false, Bool.not_eq_eq_eq_not, Bool.not_true, Bool.not_false, List.length_map, Int.not_lt, Int.not_le, ne_eq, Decidable.not_not] at hc1
    refine vc_skip ?_
    refine hK2 _ ?_
    refine vc_seq fun K5 hK5 => ?_
    refine vc_region ?_
    refine vo_move_pv rfl rfl ?_
    refine vo_load_varS rfl rfl rfl Try.underlying73 rfl inf73 sz73 rfl rfl ?_
    refine vo_build S180 rfl rfl rfl ?_
    refine vo_stM ?_
    refine vo_alloc Z180 rfl ?_
    refine vo_stM ?_
    refine vo_store_varS rfl rfl rfl inf180 sz180 rfl ?_
    refine vo_stM ?_
    refine vo_nil ?_
    refine hK5 _ ?_
    refine vc_seq fun K6 hK6 => ?_
    refine vc_seq fun K7 hK7 => ?_
    refine vc_region ?_
    refine vo_fieldAddr_ptr rfl rfl Try.underlying73 rfl inf3 (by rw [sz3]; decide) ?_
    try simp only [Nat.zero_add]
    refine vo_load_var rfl rfl rfl Try.underlying3 rfl rfl ?_
    refine vo_nil ?_
    refine hK7 _ ?_
    refine vc_block ?_
    refine vc_seq fun K8 hK8 => ?_
    refine vc_region ?_
    refine vo_binI rfl rfl rfl rfl trivial ?_
    refine vo_assign_pv rfl rfl ?_
    refine vo_nil ?_
    refine hK8 _ ?_
    refine vc_cond rfl (fun hc2 => ?_) (fun hc2 => ?_)
    · try simp only [decide_eq_true_eq, decide_eq_false_iff_not, beq_iff_eq, bne_iff_ne, beq_eq_false_iff_ne, bne_eq_false_iff_eq, Bool.not_eq_true, Bool.not_eq_false, Bool.not_eq_eq_eq_not, Bool.not_true, Bool.not_false, List.length_map, Int.not_lt, Int.not_le, ne_eq, Decidable.not_not] at hc2
      refine vc_seq fun K9 hK9 => ?_
      refine vc_region ?_
      refine vo_load_varS rfl rfl rfl Try.underlying180 rfl inf180 sz180 rfl rfl ?_
      refine vo_build S182 rfl rfl rfl ?_
      refine vo_stM ?_
      refine vo_makeIface rfl rfl Try.underlying182 rfl ?_
      refine vo_stM ?_
      refine vo_assign rfl ?_
      refine vo_stM ?_
      refine vo_nil ?_
      refine hK9 _ ?_
      refine vc_ret ?_
      change retQ _ _ _ _ _
      refine retQ_sel [] (srows := []) (.inr rfl) hC rfl rfl rfl rfl rfl rfl rfl ?_
      first
        | exact ⟨_, .inl ⟨by omega, rfl⟩, rfl, rfl⟩
        | exact ⟨_, .inr (.inr (.inl ⟨⟨by omega, by omega⟩, rfl⟩)), rfl, rfl⟩
        | exact ⟨_, .inr (.inr (.inr (.inl ⟨⟨by omega, by omega⟩, rfl⟩))), rfl, rfl⟩
        | exact ⟨_, .inr (.inr (.inr (.inr (.inl ⟨⟨by omega, by omega⟩, rfl⟩)))), rfl, rfl⟩
        | exact ⟨_, .inr (.inr (.inr (.inr (.inr ⟨⟨by omega, by omega⟩, rfl⟩)))), rfl, rfl⟩
        | exact ⟨_, .inr (.inl ⟨⟨by omega, by omega, by omega, by omega, by omega⟩, rfl⟩), rfl, rfl⟩
    · try simp only [decide_eq_true_eq, decide_eq_false_iff_not, beq_iff_eq, bne_iff_ne, beq_eq_false_iff_ne, bne_eq_false_iff_eq, Bool.not_eq_true, Bool.not_eq_false, Bool.not_eq_eq_eq_not, Bool.not_true, Bool.not_false, List.length_map, Int.not_lt, Int.not_le, ne_eq, Decidable.not_not] at hc2
      refine vc_seq fun K10 hK10 => ?_
      refine vc_region ?_
      refine vo_binI rfl rfl rfl rfl trivial ?_
      refine vo_assign_pv rfl rfl ?_
      refine vo_nil ?_
      refine hK10 _ ?_
      refine vc_cond rfl (fun hc3 => ?_) (fun hc3 => ?_)
      · try simp only [decide_eq_true_eq, decide_eq_false_iff_not, beq_iff_eq, bne_iff_ne, beq_eq_false_iff_ne, bne_eq_false_iff_eq, Bool.not_eq_true, Bool.not_eq_false, Bool.not_eq_eq_eq_not, Bool.not_true, Bool.not_false, List.length_map, Int.not_lt, Int.not_le, ne_eq, Decidable.not_not] at hc3
        refine vc_seq fun K11 hK11 => ?_
        refine vc_region ?_
        refine vo_load_varS rfl rfl rfl Try.underlying180 rfl inf180 sz180 rfl rfl ?_
        refine vo_build S183 rfl rfl rfl ?_
        refine vo_stM ?_
        refine vo_build S185 rfl rfl rfl ?_
        refine vo_stM ?_
        refine vo_makeIface rfl rfl Try.underlying185 rfl ?_
        refine vo_stM ?_
        refine vo_assign rfl ?_
        refine vo_stM ?_
        refine vo_nil ?_
        refine hK11 _ ?_
        refine vc_ret ?_
        change retQ _ _ _ _ _
        refine retQ_sel [] (srows := []) (.inr rfl) hC rfl rfl rfl rfl rfl rfl rfl ?_
        first
          | exact ⟨_, .inl ⟨by omega, rfl⟩, rfl, rfl⟩
          | exact ⟨_, .inr (.inr (.inl ⟨⟨by omega, by omega⟩, rfl⟩)), rfl, rfl⟩
          | exact ⟨_, .inr (.inr (.inr (.inl ⟨⟨by omega, by omega⟩, rfl⟩))), rfl, rfl⟩
          | exact ⟨_, .inr (.inr (.inr (.inr (.inl ⟨⟨by omega, by omega⟩, rfl⟩)))), rfl, rfl⟩
          | exact ⟨_, .inr (.inr (.inr (.inr (.inr ⟨⟨by omega, by omega⟩, rfl⟩)))), rfl, rfl⟩
          | exact ⟨_, .inr (.inl ⟨⟨by omega, by omega, by omega, by omega, by omega⟩, rfl⟩), rfl, rfl⟩
      · try simp only [decide_eq_true_eq, decide_eq_false_iff_not, beq_iff_eq, bne_iff_ne, beq_eq_false_iff_ne, bne_eq_false_iff_eq, Bool.not_eq_true, Bool.not_eq_false, Bool.not_eq_eq_eq_not, Bool.not_true, Bool.not_false, List.length_map, Int.not_lt, Int.not_le, ne_eq, Decidable.not_not] at hc3
        refine vc_seq fun K12 hK12 => ?_
        refine vc_region ?_
        refine vo_binI rfl rfl rfl rfl trivial ?_
        refine vo_assign_pv rfl rfl ?_
        refine vo_nil ?_
        refine hK12 _ ?_
        refine vc_cond rfl (fun hc4 => ?_) (fun hc4 => ?_)
        · try simp only [decide_eq_true_eq, decide_eq_false_iff_not, beq_iff_eq, bne_iff_ne, beq_eq_false_iff_ne, bne_eq_false_iff_eq, Bool.not_eq_true, Bool.not_eq_false, Bool.not_eq_eq_eq_not, Bool.not_true, Bool.not_false, List.length_map, Int.not_lt, Int.not_le, ne_eq, Decidable.not_not] at hc4
          refine vc_seq fun K13 hK13 => ?_
          refine vc_region ?_
          refine vo_load_varS rfl rfl rfl Try.underlying180 rfl inf180 sz180 rfl rfl ?_
          refine vo_build S183 rfl rfl rfl ?_
          refine vo_stM ?_
          refine vo_makeIface rfl rfl Try.underlying183 rfl ?_
          refine vo_stM ?_
          refine vo_assign rfl ?_
          refine vo_stM ?_
          refine vo_nil ?_
          refine hK13 _ ?_
          refine vc_ret ?_
          change retQ _ _ _ _ _
          refine retQ_sel [] (srows := []) (.inr rfl) hC rfl rfl rfl rfl rfl rfl rfl ?_
          first
            | exact ⟨_, .inl ⟨by omega, rfl⟩, rfl, rfl⟩
            | exact ⟨_, .inr (.inr (.inl ⟨⟨by omega, by omega⟩, rfl⟩)), rfl, rfl⟩
            | exact ⟨_, .inr (.inr (.inr (.inl ⟨⟨by omega, by omega⟩, rfl⟩))), rfl, rfl⟩
            | exact ⟨_, .inr (.inr (.inr (.inr (.inl ⟨⟨by omega, by omega⟩, rfl⟩)))), rfl, rfl⟩
            | exact ⟨_, .inr (.inr (.inr (.inr (.inr ⟨⟨by omega, by omega⟩, rfl⟩)))), rfl, rfl⟩
            | exact ⟨_, .inr (.inl ⟨⟨by omega, by omega, by omega, by omega, by omega⟩, rfl⟩), rfl, rfl⟩
        · try simp only [decide_eq_true_eq, decide_eq_false_iff_not, beq_iff_eq, bne_iff_ne, beq_eq_false_iff_ne, bne_eq_false_iff_eq, Bool.not_eq_true, Bool.not_eq_false, Bool.not_eq_eq_eq_not, Bool.not_true, Bool.not_false, List.length_map, Int.not_lt, Int.not_le, ne_eq, Decidable.not_not] at hc4
          refine vc_seq fun K14 hK14 => ?_
          refine vc_region ?_
          refine vo_binI rfl rfl rfl rfl trivial ?_
          refine vo_assign_pv rfl rfl ?_
          refine vo_nil ?_
          refine hK14 _ ?_
          refine vc_cond rfl (fun hc5 => ?_) (fun hc5 => ?_)
          · try simp only [decide_eq_true_eq, decide_eq_false_iff_not, beq_iff_eq, bne_iff_ne, beq_eq_false_iff_ne, bne_eq_false_iff_eq, Bool.not_eq_true, Bool.not_eq_false, Bool.not_eq_eq_eq_not, Bool.not_true, Bool.not_false, List.length_map, Int.not_lt, Int.not_le, ne_eq, Decidable.not_not] at hc5
            refine vc_seq fun K15 hK15 => ?_
            refine vc_region ?_
            refine vo_load_varS rfl rfl rfl Try.underlying180 rfl inf180 sz180 rfl rfl ?_
            refine vo_build S186 rfl rfl rfl ?_
            refine vo_stM ?_
            refine vo_makeIface rfl rfl Try.underlying186 rfl ?_
            refine vo_stM ?_
            refine vo_assign rfl ?_
            refine vo_stM ?_
            refine vo_nil ?_
            refine hK15 _ ?_
            refine vc_ret ?_
            change retQ _ _ _ _ _
            refine retQ_sel [] (srows := []) (.inr rfl) hC rfl rfl rfl rfl rfl rfl rfl ?_
            first
              | exact ⟨_, .inl ⟨by omega, rfl⟩, rfl, rfl⟩
              | exact ⟨_, .inr (.inr (.inl ⟨⟨by omega, by omega⟩, rfl⟩)), rfl, rfl⟩
              | exact ⟨_, .inr (.inr (.inr (.inl ⟨⟨by omega, by omega⟩, rfl⟩))), rfl, rfl⟩
              | exact ⟨_, .inr (.inr (.inr (.inr (.inl ⟨⟨by omega, by omega⟩, rfl⟩)))), rfl, rfl⟩
              | exact ⟨_, .inr (.inr (.inr (.inr (.inr ⟨⟨by omega, by omega⟩, rfl⟩)))), rfl, rfl⟩
              | exact ⟨_, .inr (.inl ⟨⟨by omega, by omega, by omega, by omega, by omega⟩, rfl⟩), rfl, rfl⟩
          · try simp only [decide_eq_true_eq, decide_eq_false_iff_not, beq_iff_eq, bne_iff_ne, beq_eq_false_iff_ne, bne_eq_false_iff_eq, Bool.not_eq_true, Bool.not_eq_false, Bool.not_eq_eq_eq_not, Bool.not_true, Bool.not_false, List.length_map, Int.not_lt, Int.not_le, ne_eq, Decidable.not_not] at hc5
            refine vc_skip ?_
            refine hK6 _ ?_
            refine vc_seq fun K16 hK16 => ?_
            refine vc_region ?_
            refine vo_load_varS rfl rfl rfl Try.underlying180 rfl inf180 sz180 rfl rfl ?_
            refine vo_makeIface rfl rfl Try.underlying180 rfl ?_
            refine vo_stM ?_
            refine vo_assign rfl ?_
            refine vo_stM ?_
            refine vo_nil ?_
            refine hK16 _ ?_
            refine vc_ret ?_
            change retQ _ _ _ _ _
            refine retQ_sel [] (srows := []) (.inr rfl) hC rfl rfl rfl rfl rfl rfl rfl ?_
            first
              | exact ⟨_, .inl ⟨by omega, rfl⟩, rfl, rfl⟩
              | exact ⟨_, .inr (.inr (.inl ⟨⟨by omega, by omega⟩, rfl⟩)), rfl, rfl⟩
              | exact ⟨_, .inr (.inr (.inr (.inl ⟨⟨by omega, by omega⟩, rfl⟩))), rfl, rfl⟩
              | exact ⟨_, .inr (.inr (.inr (.inr (.inl ⟨⟨by omega, by omega⟩, rfl⟩)))), rfl, rfl⟩
              | exact ⟨_, .inr (.inr (.inr (.inr (.inr ⟨⟨by omega, by omega⟩, rfl⟩)))), rfl, rfl⟩
              | exact ⟨_, .inr (.inl ⟨⟨by omega, by omega, by omega, by omega, by omega⟩, rfl⟩), rfl, rfl⟩


theorem hasObject_sat {w : WorldM} {x : Int}  (hw : SW w) : SatAt Try.prog 88 [.pv false (worldP w), i64 x] [] (fun res rows => res = [bo (decide (hasO w x))] ∧ rows = []) := by
  have hw0 := hw
  obtain ⟨⟨b1, b2⟩, ⟨a1, a2⟩, o1, o2⟩ := hw
  refine sat_entry_G (rs := [(4, none)]) Try.func88 rfl rfl (Nat.le_of_ble_eq_true rfl) (Nat.le_of_ble_eq_true rfl) (resTs1 trivial) fun C hC => ?_
  rw [Try.ntmps88]
  replace hC : C.nb = 0 := hC
  refine vc_seq fun K1 hK1 => ?_
  refine vc_region ?_
  refine vo_box rfl rfl ?_
  refine vo_stM ?_
  refine vo_assign_pv rfl rfl ?_
  refine vo_nil ?_
  refine hK1 _ ?_
  refine vc_seq fun K2 hK2 => ?_
  refine vc_region ?_
  refine vo_load_varS rfl rfl rfl Try.underlying65 rfl inf65 sz65 rfl rfl ?_
  refine vo_call0 Try.func55 rfl rfl rfl rfl (implValidWorld_sat hw0) ?_
  rintro _ _ ⟨rfl, rfl⟩
  refine ⟨rfl, rfl, .inl rfl, ?_⟩
  refine vo_stM ?_
  refine vo_move_pv rfl rfl ?_
  refine vo_split 7 rfl (fun hg1 => ?_) (fun hg1 => ?_)
  · try simp only [decide_eq_true_eq, decide_eq_false_iff_not, beq_iff_eq, bne_iff_ne, beq_eq_false_iff_ne, bne_eq_false_iff_eq, Bool.not_eq_true, Bool.not_eq_false, Bool.not_eq_eq_eq_not, Bool.not_true, Bool.not_false, List.length_map, Int.not_lt, Int.not_le, ne_eq, Decidable.not_not] at hg1
    refine vo_guard_on rfl rfl rfl ?_
    refine vo_move_pv rfl rfl ?_
    refine vo_guard_on rfl rfl rfl ?_
    refine vo_fieldAddr_ptr rfl rfl Try.underlying65 rfl inf63 (by rw [sz63]; decide) ?_
    try simp only [Nat.zero_add]
    refine vo_guard_on rfl rfl rfl ?_
    refine vo_load_var rfl rfl rfl Try.underlying63 rfl rfl ?_
    refine vo_guard_on rfl rfl rfl ?_
    refine vo_len_pv rfl rfl Try.underlying63 ?_
    refine vo_guard_on rfl rfl rfl ?_
    refine vo_binI rfl rfl rfl rfl sd ?_
    refine vo_guard_on rfl rfl rfl ?_
    refine vo_call0 Try.func108 rfl rfl rfl rfl isUpTo_sat ?_
    rintro _ _ ⟨rfl, rfl⟩
    refine ⟨rfl, rfl, .inl rfl, ?_⟩
    refine vo_stM ?_
    refine vo_pick_t rfl rfl ?_
    refine vo_assign_pv rfl rfl ?_
    refine vo_nil ?_
    refine hK2 _ ?_
    refine vc_ret ?_
    change retQ _ _ _ _ _
    refine retQ_sel [] (srows := []) (.inr rfl) hC rfl rfl rfl rfl rfl rfl rfl ?_
    refine ⟨?_, rfl⟩
    refine (congrArg (fun b => [bo b]) (?_ : _ = _) : [bo _] = [bo _])
    first
      | exact bF fun h0 => absurd h0.1 (by assumption)
      | exact decide_eq_decide.2 ⟨fun h0 => ⟨by assumption, by omega, by simp only [List.length_map] at h0; omega⟩, fun h0 => by have := h0.2; simp only [List.length_map]; omega⟩
  · try simp only [decide_eq_true_eq, decide_eq_false_iff_not, beq_iff_eq, bne_iff_ne, beq_eq_false_iff_ne, bne_eq_false_iff_eq, Bool.not_eq_true, Bool.not_eq_false, Bool.not_eq_eq_eq_not, Bool.not_true, Bool.not_false, List.length_map, Int.not_lt, Int.not_le, ne_eq, Decidable.not_not] at hg1
    refine vo_guard_off rfl rfl rfl rfl rfl ?_
    refine vo_guard_off rfl rfl rfl rfl rfl ?_
    refine vo_guard_off rfl rfl rfl rfl rfl ?_
    refine vo_guard_off rfl rfl rfl rfl rfl ?_
    refine vo_guard_off rfl rfl rfl rfl rfl ?_
    refine vo_guard_off rfl rfl rfl rfl rfl ?_
    refine vo_pick_f rfl rfl ?_
    refine vo_assign_pv rfl rfl ?_
    refine vo_nil ?_
    refine hK2 _ ?_
    refine vc_ret ?_
    change retQ _ _ _ _ _
    refine retQ_sel [] (srows := []) (.inr rfl) hC rfl rfl rfl rfl rfl rfl rfl ?_
    refine ⟨?_, rfl⟩
    refine (congrArg (fun b => [bo b]) (?_ : _ = _) : [bo _] = [bo _])
    first
      | exact bF fun h0 => absurd h0.1 (by assumption)
      | exact decide_eq_decide.2 ⟨fun h0 => ⟨by assumption, by omega, by simp only [List.length_map] at h0; omega⟩, fun h0 => by have := h0.2; simp only [List.length_map]; omega⟩


theorem validObject_sat {w : WorldM} {x : Int}  (hw : SW w) : SatAt Try.prog 84 [.pv false (worldP w), i64 x] [] (fun res rows => res = [bo (decide (hasO w x))] ∧ rows = []) := by
  have hw0 := hw
  obtain ⟨⟨b1, b2⟩, ⟨a1, a2⟩, o1, o2⟩ := hw
  refine sat_entry_G (rs := [(4, none)]) Try.func84 rfl rfl (Nat.le_of_ble_eq_true rfl) (Nat.le_of_ble_eq_true rfl) (resTs1 trivial) fun C hC => ?_
  rw [Try.ntmps84]
  replace hC : C.nb = 0 := hC
  refine vc_seq fun K1 hK1 => ?_
  refine vc_region ?_
  refine vo_box rfl rfl ?_
  refine vo_stM ?_
  refine vo_assign_pv rfl rfl ?_
  refine vo_nil ?_
  refine hK1 _ ?_
  refine vc_seq fun K2 hK2 => ?_
  refine vc_region ?_
  refine vo_load_varS rfl rfl rfl Try.underlying65 rfl inf65 sz65 rfl rfl ?_
  refine vo_call0 Try.func94 rfl rfl rfl rfl (specValidWorld0_sat hw0) ?_
  rintro _ _ ⟨rfl, rfl⟩
  refine ⟨rfl, rfl, .inl rfl, ?_⟩
  refine vo_stM ?_
  refine vo_move_pv rfl rfl ?_
  refine vo_split 7 rfl (fun hg1 => ?_) (fun hg1 => ?_)
  · try simp only [decide_eq_true_eq, decide_eq_false_iff_not, beq_iff_eq, bne_iff_ne, beq_eq_false_iff_ne, bne_eq_false_iff_eq, Bool.not_eq_true, Bool.not_eq_false, Bool.not_eq_eq_eq_not, Bool.not_true, Bool.not_false, List.length_map, Int.not_lt, Int.not_le, ne_eq, Decidable.not_not] at hg1
    refine vo_guard_on rfl rfl rfl ?_
    refine vo_move_pv rfl rfl ?_
    refine vo_guard_on rfl rfl rfl ?_
    refine vo_fieldAddr_ptr rfl rfl Try.underlying65 rfl inf63 (by rw [sz63]; decide) ?_
    try simp only [Nat.zero_add]
    refine vo_guard_on rfl rfl rfl ?_
    refine vo_load_var rfl rfl rfl Try.underlying63 rfl rfl ?_
    refine vo_guard_on rfl rfl rfl ?_
    refine vo_len_pv rfl rfl Try.underlying63 ?_
    refine vo_guard_on rfl rfl rfl ?_
    refine vo_binI rfl rfl rfl rfl sd ?_
    refine vo_guard_on rfl rfl rfl ?_
    refine vo_call0 Try.func95 rfl rfl rfl rfl inRange_sat ?_
    rintro _ _ ⟨rfl, rfl⟩
    refine ⟨rfl, rfl, .inl rfl, ?_⟩
    refine vo_stM ?_
    refine vo_pick_t rfl rfl ?_
    refine vo_assign_pv rfl rfl ?_
    refine vo_nil ?_
    refine hK2 _ ?_
    refine vc_ret ?_
    change retQ _ _ _ _ _
    refine retQ_sel [] (srows := []) (.inr rfl) hC rfl rfl rfl rfl rfl rfl rfl ?_
    refine ⟨?_, rfl⟩
    refine (congrArg (fun b => [bo b]) (?_ : _ = _) : [bo _] = [bo _])
    first
      | exact bF fun h0 => absurd h0.1 (by assumption)
      | exact decide_eq_decide.2 ⟨fun h0 => ⟨by assumption, by omega, by simp only [List.length_map] at h0; omega⟩, fun h0 => by have := h0.2; simp only [List.length_map]; omega⟩
  · try simp only [decide_eq_true_eq, decide_eq_false_iff_not, beq_iff_eq, bne_iff_ne, beq_eq_false_iff_ne, bne_eq_false_iff_eq, Bool.not_eq_true, Bool.not_eq_false, Bool.not_eq_eq_eq_not, Bool.not_true, Bool.not_false, List.length_map, Int.not_lt, Int.not_le, ne_eq, Decidable.not_not] at hg1
    refine vo_guard_off rfl rfl rfl rfl rfl ?_
    refine vo_guard_off rfl rfl rfl rfl rfl ?_
    refine vo_guard_off rfl rfl rfl rfl rfl ?_
    refine vo_guard_off rfl rfl rfl rfl rfl ?_
    refine vo_guard_off rfl rfl rfl rfl rfl ?_
    refine vo_guard_off rfl rfl rfl rfl rfl ?_
    refine vo_pick_f rfl rfl ?_
    refine vo_assign_pv rfl rfl ?_
    refine vo_nil ?_
    refine hK2 _ ?_
    refine vc_ret ?_
    change retQ _ _ _ _ _
    refine retQ_sel [] (srows := []) (.inr rfl) hC rfl rfl rfl rfl rfl rfl rfl ?_
    refine ⟨?_, rfl⟩
    refine (congrArg (fun b => [bo b]) (?_ : _ = _) : [bo _] = [bo _])
    first
      | exact bF fun h0 => absurd h0.1 (by assumption)
      | exact decide_eq_decide.2 ⟨fun h0 => ⟨by assumption, by omega, by simp only [List.length_map] at h0; omega⟩, fun h0 => by have := h0.2; simp only [List.length_map]; omega⟩


theorem implSuperAttr_sat {w : WorldM} {x : Int} {beh : Int} {name : Int}  (hw : SW w) : SatAt Try.prog 44 [.pv false (worldP w), i64 x, i64 beh, i64 name] [] (fun res rows => res = [.pv true (foundP (superM w x beh name))] ∧ rows = []) := by
  have hw0 := hw
  obtain ⟨⟨b1, b2⟩, ⟨a1, a2⟩, o1, o2⟩ := hw
  refine sat_entry_G (rs := [(8, some (60, 4))]) Try.func44 rfl rfl (Nat.le_of_ble_eq_true rfl) (Nat.le_of_ble_eq_true rfl) (resTs1 ⟨_, _, Try.underlying60, rfl, inf60, sz60⟩) fun C hC => ?_
  rw [Try.ntmps44]
  replace hC : C.nb = 0 := hC
  refine vc_seq fun K1 hK1 => ?_
  refine vc_region ?_
  refine vo_box rfl rfl ?_
  refine vo_stM ?_
  refine vo_alloc Z60 rfl ?_
  refine vo_stM ?_
  refine vo_nil ?_
  refine hK1 _ ?_
  refine vc_seq fun K2 hK2 => ?_
  refine vc_seq fun K3 hK3 => ?_
  refine vc_region ?_
  refine vo_load_varS rfl rfl rfl Try.underlying65 rfl inf65 sz65 rfl rfl ?_
  refine vo_move_pv rfl rfl ?_
  refine vo_call0 Try.func88 rfl rfl rfl rfl (hasObject_sat hw0) ?_
  rintro _ _ ⟨rfl, rfl⟩
  refine ⟨rfl, rfl, .inl rfl, ?_⟩
  refine vo_stM ?_
  refine vo_not rfl rfl ?_
  refine vo_nil ?_
  refine hK3 _ ?_
  refine vc_cond rfl (fun hc1 => ?_) (fun hc1 => ?_)
  · try simp only [decide_eq_true_eq, decide_eq_false_iff_not, beq_iff_eq, bne_iff_ne, beq_eq_false_iff_ne, bne_eq_false_iff_eq, Bool.not_eq_true, Bool.not_eq_false, Bool.not_eq_eq_eq_not, Bool.not_true, Bool.not_false, List.length_map, Int.not_lt, Int.not_le, ne_eq, Decidable.not_not] at hc1
    refine vc_seq fun K4 hK4 => ?_
    refine vc_region ?_
    refine vo_call0 Try.func89 rfl rfl rfl rfl foundNothing_sat ?_
    rintro _ _ ⟨rfl, rfl⟩
    refine ⟨rfl, rfl, .inl rfl, ?_⟩
    refine vo_stM ?_
    refine vo_store_varS rfl rfl rfl inf60 sz60 rfl ?_
    refine vo_stM ?_
    refine vo_nil ?_
    refine hK4 _ ?_
    refine vc_ret ?_
    change retQ _ _ _ _ _
    refine retQ_sel [] (srows := []) (.inr rfl) hC rfl rfl rfl rfl rfl rfl rfl ?_
    refine ⟨fr_eq (?_ : FoundM.mk _ _ _ _ = _), rfl⟩
    unfold superM; rw [if_neg (by assumption)]; rfl
  · try simp only [decide_eq_true_eq, decide_eq_false_iff_not, beq_iff_eq, bne_iff_ne, beq_eq_false_iff_ne, bne_eq_false_iff_eq, Bool.not_eq_true, Bool.not_eq_false, Bool.not_eq_eq_eq_not, Bool.not_true, Bool.not_false, List.length_map, Int.not_lt, Int.not_le, ne_eq, Decidable.not_not] at hc1
    have hx2 := hc1.2
    have hcl := hasO_cls hc1
    have hxl : x.toNat < w.objs.length := by have := hc1.2; omega
    have hof := getD_all o2 ⟨0, []⟩ SO_zero x.toNat
    unfold SO at hof
    have hnl := nms_lt (n := name) (l := (w.objs.getD x.toNat ⟨0, []⟩).pairs)
    have htl := ordT_len w.bases ((w.objs.getD x.toNat ⟨0, []⟩).cls.toNat + 1)
    have hoi := ordIn_of hc1.1 hcl.1 hcl.2
    have hol := ordM_len hc1.1.1.1 (show (w.objs.getD x.toNat ⟨0, []⟩).cls.toNat < w.bases.length by omega)
    have hri := rst_in (x := beh) hoi
    refine vc_skip ?_
    refine hK2 _ ?_
    refine vc_seq fun K5 hK5 => ?_
    refine vc_region ?_
    refine vo_fieldAddr_ptr rfl rfl Try.underlying65 rfl inf63 (by rw [sz63]; decide) ?_
    try simp only [Nat.zero_add]
    refine vo_load_var rfl rfl rfl Try.underlying63 rfl rfl ?_
    refine vo_move_pv rfl rfl ?_
    refine vo_index_pv (.agg [(.int .i64 0), (.sl none 2 [])]) rfl rfl rfl E63.und inf118 sz118 sd sd ?_
    simp only [Int.toNat_natCast, Int.toNat_zero, getD_ints, getD_intss, getD_bools, getD_bytes, PV.cells, getD_ops, getD_pairs, getD_insts, getD_attrs, getD_attrss, getD_objs, getD_ordP]
    refine vo_fieldAddr_adr rfl rfl Try.underlying118 rfl inf3 (by rw [sz3]; decide) ?_
    refine vo_load_adr rfl rfl Try.underlying3 rfl ?_
    refine vo_assign_pv rfl rfl ?_
    refine vo_nil ?_
    refine hK5 _ ?_
    refine vc_seq fun K6 hK6 => ?_
    refine vc_region ?_
    refine vo_fieldAddr_ptr rfl rfl Try.underlying65 rfl inf22 (by rw [sz22]; decide) ?_
    try simp only [Nat.zero_add]
    refine vo_load_var rfl rfl rfl Try.underlying22 rfl rfl ?_
    refine vo_move_pv rfl rfl ?_
    refine vo_call [] Try.func76 rfl rfl rfl rfl rfl rfl rfl (ordersUpTo_satI (by omega) (fun l hl => by have := b2 l hl; omega) hc1.1.1.1 hcl.1 (by omega)) ?_
    rintro _ _ ⟨rfl, rfl⟩
    refine ⟨Nat.le_of_ble_eq_true rfl, ⟨rfl, rfl, rfl, rfl⟩, .inl rfl, ?_⟩
    refine vo_stM ?_
    refine vo_treeown 2 (by omega) rfl ?_
    refine vo_stM ?_
    refine vo_expose 2 (by omega) rfl ?_
    refine vo_stM ?_
    refine vo_weaken 25 rfl ?_
    refine vo_stM ?_
    refine vo_move_pv rfl rfl ?_
    refine vo_index_pv (.sl (some true) 1 []) rfl rfl rfl E22.und inf36 sz36 sd sd ?_
    simp only [Int.toNat_natCast, Int.toNat_zero, getD_ints, getD_intss, getD_bools, getD_bytes, PV.cells, getD_ops, getD_pairs, getD_insts, getD_attrs, getD_attrss, getD_objs, getD_ordP]
    refine vo_load_adr rfl rfl Try.underlying36 rfl ?_
    rw [ordT_get w.bases ((w.objs.getD x.toNat ⟨0, []⟩).cls.toNat + 1) (w.objs.getD x.toNat ⟨0, []⟩).cls.toNat (by omega)]
    refine vo_stM ?_
    refine vo_move_pv rfl rfl ?_
    refine vo_call0 Try.func70 rfl rfl rfl rfl (restBehind_sat (order := ordM w.bases (w.objs.getD x.toNat ⟨0, []⟩).cls.toNat) (by omega)) ?_
    rintro _ _ ⟨f8, nl8, rfl, rfl⟩
    refine ⟨rfl, rfl, .inl rfl, ?_⟩
    refine vo_stM ?_
    refine vo_flag 30 rfl ?_
    refine vo_stM ?_
    refine vo_assign_pv rfl rfl ?_
    refine vo_nil ?_
    refine hK6 _ ?_
    refine vc_seq fun K7 hK7 => ?_
    refine vc_region ?_
    refine vo_load_varS rfl rfl rfl Try.underlying65 rfl inf65 sz65 rfl rfl ?_
    refine vo_move_pv rfl rfl ?_
    refine vo_move_pv rfl rfl ?_
    refine vo_call0 Try.func100 rfl rfl rfl rfl (firstIn_sat (classes := rstM (ordM w.bases (w.objs.getD x.toNat ⟨0, []⟩).cls.toNat) beh) a1 a2 hri) ?_
    rintro _ _ ⟨rfl, rfl⟩
    refine ⟨rfl, rfl, .inl rfl, ?_⟩
    refine vo_stM ?_
    refine vo_extract rfl rfl rfl ?_
    refine vo_extract rfl rfl rfl ?_
    refine vo_call0 Try.func99 rfl rfl rfl rfl memberOf_sat ?_
    rintro _ _ ⟨p, hp, rfl, rfl⟩
    refine ⟨rfl, rfl, .inl rfl, ?_⟩
    refine vo_stM ?_
    rcases hp with ⟨hk, rfl⟩ | ⟨hk, rfl⟩ | ⟨hk, rfl⟩ | ⟨hk, rfl⟩ | ⟨hk, rfl⟩ | ⟨hk, rfl⟩
    · skip
      refine vo_move_pv rfl rfl ?_
      refine vo_move_pv rfl rfl ?_
      refine vo_invoke [] rfl (mth178_byObject) Try.func211 rfl rfl rfl rfl rfl rfl rfl noByObject_sat ?_
      rintro _ _ ⟨rfl, rfl⟩
      refine ⟨Nat.le_of_ble_eq_true rfl, ⟨rfl, rfl, rfl, rfl⟩, .inl rfl, ?_⟩
      refine vo_stM ?_
      refine vo_store_varS rfl rfl rfl inf60 sz60 rfl ?_
      refine vo_stM ?_
      refine vo_nil ?_
      refine hK7 _ ?_
      refine vc_ret ?_
      change retQ _ _ _ _ _
      refine retQ_sel [] (srows := []) (.inr rfl) hC rfl rfl rfl rfl rfl rfl rfl ?_
      refine ⟨fr_eq (?_ : FoundM.mk _ _ _ _ = _), rfl⟩
      unfold superM; rw [if_pos hc1]
      unfold bindO bindM none0
      repeat' split
      all_goals first | rfl | (exfalso; omega)
    · skip
      refine vo_move_pv rfl rfl ?_
      refine vo_move_pv rfl rfl ?_
      refine vo_invoke [] rfl (mth180_byObject _ _ _ _) Try.func213 rfl rfl rfl rfl rfl rfl rfl (plainByObject_sat (o := _) (a := ⟨_, _, _⟩)) ?_
      rintro _ _ ⟨rfl, rfl⟩
      refine ⟨Nat.le_of_ble_eq_true rfl, ⟨rfl, rfl, rfl, rfl⟩, .inl rfl, ?_⟩
      refine vo_stM ?_
      refine vo_store_varS rfl rfl rfl inf60 sz60 rfl ?_
      refine vo_stM ?_
      refine vo_nil ?_
      refine hK7 _ ?_
      refine vc_ret ?_
      change retQ _ _ _ _ _
      refine retQ_sel [] (srows := []) (.inr rfl) hC rfl rfl rfl rfl rfl rfl rfl ?_
      refine ⟨fr_eq (?_ : FoundM.mk _ _ _ _ = _), rfl⟩
      unfold superM; rw [if_pos hc1]
      unfold bindO bindM none0
      repeat' split
      all_goals first | rfl | (exfalso; omega)
    · skip
      refine vo_move_pv rfl rfl ?_
      refine vo_move_pv rfl rfl ?_
      refine vo_invoke [] rfl (mth182_byObject _ _ _ _) Try.func215 rfl rfl rfl rfl rfl rfl rfl (methodByObject_sat (o := _) (a := ⟨_, _, _⟩)) ?_
      rintro _ _ ⟨rfl, rfl⟩
      refine ⟨Nat.le_of_ble_eq_true rfl, ⟨rfl, rfl, rfl, rfl⟩, .inl rfl, ?_⟩
      refine vo_stM ?_
      refine vo_store_varS rfl rfl rfl inf60 sz60 rfl ?_
      refine vo_stM ?_
      refine vo_nil ?_
      refine hK7 _ ?_
      refine vc_ret ?_
      change retQ _ _ _ _ _
      refine retQ_sel [] (srows := []) (.inr rfl) hC rfl rfl rfl rfl rfl rfl rfl ?_
      refine ⟨fr_eq (?_ : FoundM.mk _ _ _ _ = _), rfl⟩
      unfold superM; rw [if_pos hc1]
      unfold bindO bindM none0
      repeat' split
      all_goals first | rfl | (exfalso; omega)
    · skip
      refine vo_move_pv rfl rfl ?_
      refine vo_move_pv rfl rfl ?_
      refine vo_invoke [] rfl (mth183_byObject _ _ _ _) Try.func216 rfl rfl rfl rfl rfl rfl rfl (fixedByObject_sat (o := _) (a := ⟨_, _, _⟩)) ?_
      rintro _ _ ⟨rfl, rfl⟩
      refine ⟨Nat.le_of_ble_eq_true rfl, ⟨rfl, rfl, rfl, rfl⟩, .inl rfl, ?_⟩
      refine vo_stM ?_
      refine vo_store_varS rfl rfl rfl inf60 sz60 rfl ?_
      refine vo_stM ?_
      refine vo_nil ?_
      refine hK7 _ ?_
      refine vc_ret ?_
      change retQ _ _ _ _ _
      refine retQ_sel [] (srows := []) (.inr rfl) hC rfl rfl rfl rfl rfl rfl rfl ?_
      refine ⟨fr_eq (?_ : FoundM.mk _ _ _ _ = _), rfl⟩
      unfold superM; rw [if_pos hc1]
      unfold bindO bindM none0
      repeat' split
      all_goals first | rfl | (exfalso; omega)
    · skip
      refine vo_move_pv rfl rfl ?_
      refine vo_move_pv rfl rfl ?_
      refine vo_invoke [] rfl (mth185_byObject _ _ _ _) Try.func216 rfl rfl rfl rfl rfl rfl rfl (fixedByObject_sat (o := _) (a := ⟨_, _, _⟩)) ?_
      rintro _ _ ⟨rfl, rfl⟩
      refine ⟨Nat.le_of_ble_eq_true rfl, ⟨rfl, rfl, rfl, rfl⟩, .inl rfl, ?_⟩
      refine vo_stM ?_
      refine vo_store_varS rfl rfl rfl inf60 sz60 rfl ?_
      refine vo_stM ?_
      refine vo_nil ?_
      refine hK7 _ ?_
      refine vc_ret ?_
      change retQ _ _ _ _ _
      refine retQ_sel [] (srows := []) (.inr rfl) hC rfl rfl rfl rfl rfl rfl rfl ?_
      refine ⟨fr_eq (?_ : FoundM.mk _ _ _ _ = _), rfl⟩
      unfold superM; rw [if_pos hc1]
      unfold bindO bindM none0
      repeat' split
      all_goals first | rfl | (exfalso; omega)
    · skip
      refine vo_move_pv rfl rfl ?_
      refine vo_move_pv rfl rfl ?_
      refine vo_invoke [] rfl (mth186_byObject _ _ _ _) Try.func220 rfl rfl rfl rfl rfl rfl rfl (classByObject_sat (o := _) (a := ⟨_, _, _⟩)) ?_
      rintro _ _ ⟨rfl, rfl⟩
      refine ⟨Nat.le_of_ble_eq_true rfl, ⟨rfl, rfl, rfl, rfl⟩, .inl rfl, ?_⟩
      refine vo_stM ?_
      refine vo_store_varS rfl rfl rfl inf60 sz60 rfl ?_
      refine vo_stM ?_
      refine vo_nil ?_
      refine hK7 _ ?_
      refine vc_ret ?_
      change retQ _ _ _ _ _
      refine retQ_sel [] (srows := []) (.inr rfl) hC rfl rfl rfl rfl rfl rfl rfl ?_
      refine ⟨fr_eq (?_ : FoundM.mk _ _ _ _ = _), rfl⟩
      unfold superM; rw [if_pos hc1]
      unfold bindO bindM none0
      repeat' split
      all_goals first | rfl | (exfalso; omega)

end Go.Vl

namespace Go.Vl
set_option linter.unusedVariables false
set_option linter.unusedSimpArgs false
open Go.Proofs

theorem bind_sat {ow : Int} {a : AttrM} {obj : Int} {c : Int}   : SatAt Try.prog 97 [i64 ow, .pv false (attrP a), i64 obj, i64 c] [] (fun res rows => res = [.pv true (foundP (bindM ow a obj c))] ∧ rows = []) := by
  refine sat_entry_G (rs := [(8, some (60, 4))]) Try.func97 rfl rfl (Nat.le_of_ble_eq_true rfl) (Nat.le_of_ble_eq_true rfl) (resTs1 ⟨_, _, Try.underlying60, rfl, inf60, sz60⟩) fun C hC => ?_
  rw [Try.ntmps97]
  replace hC : C.nb = 0 := hC
  refine vc_seq fun K1 hK1 => ?_
  refine vc_region ?_
  refine vo_box rfl rfl ?_
  refine vo_stM ?_
  refine vo_alloc Z60 rfl ?_
  refine vo_stM ?_
  refine vo_nil ?_
  refine hK1 _ ?_
  refine vc_seq fun K2 hK2 => ?_
  refine vc_region ?_
  refine vo_move_pv rfl rfl ?_
  refine vo_fieldAddr_ptr rfl rfl Try.underlying73 rfl inf3 (by rw [sz3]; decide) ?_
  try simp only [Nat.zero_add]
  refine vo_load_var rfl rfl rfl Try.underlying3 rfl rfl ?_
  refine vo_build S60 rfl rfl rfl ?_
  refine vo_stM ?_
  refine vo_alloc Z60 rfl ?_
  refine vo_stM ?_
  refine vo_store_varS rfl rfl rfl inf60 sz60 rfl ?_
  refine vo_stM ?_
  refine vo_nil ?_
  refine hK2 _ ?_
  refine vc_seq fun K3 hK3 => ?_
  refine vc_seq fun K4 hK4 => ?_
  refine vc_region ?_
  refine vo_fieldAddr_ptr rfl rfl Try.underlying73 rfl inf3 (by rw [sz3]; decide) ?_
  try simp only [Nat.zero_add]
  refine vo_load_var rfl rfl rfl Try.underlying3 rfl rfl ?_
  refine vo_nil ?_
  refine hK4 _ ?_
  refine vc_block ?_
  refine vc_seq fun K5 hK5 => ?_
  refine vc_region ?_
  refine vo_binI rfl rfl rfl rfl trivial ?_
  refine vo_assign_pv rfl rfl ?_
  refine vo_nil ?_
  refine hK5 _ ?_
  refine vc_cond rfl (fun hc1 => ?_) (fun hc1 => ?_)
  · try simp only [decide_eq_true_eq, decide_eq_false_iff_not, beq_iff_eq, bne_iff_ne, beq_eq_false_iff_ne, bne_eq_false_iff_eq, Bool.not_eq_true, Bool.not_eq_false, Bool.not_eq_eq_eq_not, Bool.not_true, Bool.not_false, List.length_map, Int.not_lt, Int.not_le, ne_eq, Decidable.not_not] at hc1
    refine vc_region ?_
    refine vo_move_pv rfl rfl ?_
    refine vo_fieldAddr_ptr rfl rfl Try.underlying60 rfl inf3 (by rw [sz3]; decide) ?_
    try simp only [Nat.zero_add]
    refine vo_store_var rfl rfl rfl rfl inf3 sz3 rfl ?_
    refine vo_stM ?_
    refine vo_nil ?_
    refine hK3 _ ?_
    refine vc_seq fun K6 hK6 => ?_
    refine vc_seq fun K7 hK7 => ?_
    refine vc_region ?_
    refine vo_fieldAddr_ptr rfl rfl Try.underlying73 rfl inf3 (by rw [sz3]; decide) ?_
    try simp only [Nat.zero_add]
    refine vo_load_var rfl rfl rfl Try.underlying3 rfl rfl ?_
    refine vo_binI rfl rfl rfl rfl trivial ?_
    refine vo_move_pv rfl rfl ?_
    refine vo_split 36 rfl (fun hg2 => ?_) (fun hg2 => ?_)
    · try simp only [decide_eq_true_eq, decide_eq_false_iff_not, beq_iff_eq, bne_iff_ne, beq_eq_false_iff_ne, bne_eq_false_iff_eq, Bool.not_eq_true, Bool.not_eq_false, Bool.not_eq_eq_eq_not, Bool.not_true, Bool.not_false, List.length_map, Int.not_lt, Int.not_le, ne_eq, Decidable.not_not] at hg2
      refine vo_guard_on rfl rfl rfl ?_
      refine vo_move_pv rfl rfl ?_
      refine vo_guard_on rfl rfl rfl ?_
      refine vo_binI rfl rfl rfl rfl trivial ?_
      refine vo_pick_t rfl rfl ?_
      refine vo_nil ?_
      refine hK7 _ ?_
      refine vc_cond rfl (fun hc3 => ?_) (fun hc3 => ?_)
      · try simp only [decide_eq_true_eq, decide_eq_false_iff_not, beq_iff_eq, bne_iff_ne, beq_eq_false_iff_ne, bne_eq_false_iff_eq, Bool.not_eq_true, Bool.not_eq_false, Bool.not_eq_eq_eq_not, Bool.not_true, Bool.not_false, List.length_map, Int.not_lt, Int.not_le, ne_eq, Decidable.not_not] at hc3
        refine vc_region ?_
        refine vo_fieldAddr_ptr rfl rfl Try.underlying60 rfl inf3 (by rw [sz3]; decide) ?_
        try simp only [Nat.zero_add]
        refine vo_store_var rfl rfl rfl rfl inf3 sz3 rfl ?_
        refine vo_stM ?_
        refine vo_nil ?_
        refine hK6 _ ?_
        refine vc_seq fun K8 hK8 => ?_
        refine vc_region ?_
        refine vo_load_varS rfl rfl rfl Try.underlying60 rfl inf60 sz60 rfl rfl ?_
        refine vo_store_varS rfl rfl rfl inf60 sz60 rfl ?_
        refine vo_stM ?_
        refine vo_nil ?_
        refine hK8 _ ?_
        refine vc_ret ?_
        change retQ _ _ _ _ _
        refine retQ_sel [] (srows := []) (.inr rfl) hC rfl rfl rfl rfl rfl rfl rfl ?_
        refine ⟨fr_eq (?_ : FoundM.mk _ _ _ _ = _), rfl⟩
        unfold bindM
        repeat' split
        all_goals first | rfl | (exfalso; omega)
      · try simp only [decide_eq_true_eq, decide_eq_false_iff_not, beq_iff_eq, bne_iff_ne, beq_eq_false_iff_ne, bne_eq_false_iff_eq, Bool.not_eq_true, Bool.not_eq_false, Bool.not_eq_eq_eq_not, Bool.not_true, Bool.not_false, List.length_map, Int.not_lt, Int.not_le, ne_eq, Decidable.not_not] at hc3
        refine vc_skip ?_
        refine hK6 _ ?_
        refine vc_seq fun K9 hK9 => ?_
        refine vc_region ?_
        refine vo_load_varS rfl rfl rfl Try.underlying60 rfl inf60 sz60 rfl rfl ?_
        refine vo_store_varS rfl rfl rfl inf60 sz60 rfl ?_
        refine vo_stM ?_
        refine vo_nil ?_
        refine hK9 _ ?_
        refine vc_ret ?_
        change retQ _ _ _ _ _
        refine retQ_sel [] (srows := []) (.inr rfl) hC rfl rfl rfl rfl rfl rfl rfl ?_
        refine ⟨fr_eq (?_ : FoundM.mk _ _ _ _ = _), rfl⟩
        unfold bindM
        repeat' split
        all_goals first | rfl | (exfalso; omega)
    · try simp only [decide_eq_true_eq, decide_eq_false_iff_not, beq_iff_eq, bne_iff_ne, beq_eq_false_iff_ne, bne_eq_false_iff_eq, Bool.not_eq_true, Bool.not_eq_false, Bool.not_eq_eq_eq_not, Bool.not_true, Bool.not_false, List.length_map, Int.not_lt, Int.not_le, ne_eq, Decidable.not_not] at hg2
      refine vo_guard_off rfl rfl rfl rfl rfl ?_
      refine vo_guard_off rfl rfl rfl rfl rfl ?_
      refine vo_pick_f rfl rfl ?_
      refine vo_nil ?_
      refine hK7 _ ?_
      refine vc_cond_f rfl ?_
      refine vc_skip ?_
      refine hK6 _ ?_
      refine vc_seq fun K10 hK10 => ?_
      refine vc_region ?_
      refine vo_load_varS rfl rfl rfl Try.underlying60 rfl inf60 sz60 rfl rfl ?_
      refine vo_store_varS rfl rfl rfl inf60 sz60 rfl ?_
      refine vo_stM ?_
      refine vo_nil ?_
      refine hK10 _ ?_
      refine vc_ret ?_
      change retQ _ _ _ _ _
      refine retQ_sel [] (srows := []) (.inr rfl) hC rfl rfl rfl rfl rfl rfl rfl ?_
      refine ⟨fr_eq (?_ : FoundM.mk _ _ _ _ = _), rfl⟩
      unfold bindM
      repeat' split
      all_goals first | rfl | (exfalso; omega)
  · try simp only [decide_eq_true_eq, decide_eq_false_iff_not, beq_iff_eq, bne_iff_ne, beq_eq_false_iff_ne, bne_eq_false_iff_eq, Bool.not_eq_true, Bool.not_eq_false, Bool.not_eq_eq_eq_not, Bool.not_true, Bool.not_false, List.length_map, Int.not_lt, Int.not_le, ne_eq, Decidable.not_not] at hc1
    refine vc_seq fun K11 hK11 => ?_
    refine vc_region ?_
    refine vo_binI rfl rfl rfl rfl trivial ?_
    refine vo_assign_pv rfl rfl ?_
    refine vo_nil ?_
    refine hK11 _ ?_
    refine vc_cond rfl (fun hc4 => ?_) (fun hc4 => ?_)
    · try simp only [decide_eq_true_eq, decide_eq_false_iff_not, beq_iff_eq, bne_iff_ne, beq_eq_false_iff_ne, bne_eq_false_iff_eq, Bool.not_eq_true, Bool.not_eq_false, Bool.not_eq_eq_eq_not, Bool.not_true, Bool.not_false, List.length_map, Int.not_lt, Int.not_le, ne_eq, Decidable.not_not] at hc4
      refine vc_seq fun K12 hK12 => ?_
      refine vc_region ?_
      refine vo_fieldAddr_ptr rfl rfl Try.underlying60 rfl inf3 (by rw [sz3]; decide) ?_
      try simp only [Nat.zero_add]
      refine vo_store_var rfl rfl rfl rfl inf3 sz3 rfl ?_
      refine vo_stM ?_
      refine vo_nil ?_
      refine hK12 _ ?_
      refine vc_region ?_
      refine vo_move_pv rfl rfl ?_
      refine vo_fieldAddr_ptr rfl rfl Try.underlying60 rfl inf3 (by rw [sz3]; decide) ?_
      try simp only [Nat.zero_add]
      refine vo_store_var rfl rfl rfl rfl inf3 sz3 rfl ?_
      refine vo_stM ?_
      refine vo_nil ?_
      refine hK3 _ ?_
      refine vc_seq fun K13 hK13 => ?_
      refine vc_seq fun K14 hK14 => ?_
      refine vc_region ?_
      refine vo_fieldAddr_ptr rfl rfl Try.underlying73 rfl inf3 (by rw [sz3]; decide) ?_
      try simp only [Nat.zero_add]
      refine vo_load_var rfl rfl rfl Try.underlying3 rfl rfl ?_
      refine vo_binI rfl rfl rfl rfl trivial ?_
      refine vo_move_pv rfl rfl ?_
      refine vo_split 36 rfl (fun hg5 => ?_) (fun hg5 => ?_)
      · try simp only [decide_eq_true_eq, decide_eq_false_iff_not, beq_iff_eq, bne_iff_ne, beq_eq_false_iff_ne, bne_eq_false_iff_eq, Bool.not_eq_true, Bool.not_eq_false, Bool.not_eq_eq_eq_not, Bool.not_true, Bool.not_false, List.length_map, Int.not_lt, Int.not_le, ne_eq, Decidable.not_not] at hg5
        refine vo_guard_on rfl rfl rfl ?_
        refine vo_move_pv rfl rfl ?_
        refine vo_guard_on rfl rfl rfl ?_
        refine vo_binI rfl rfl rfl rfl trivial ?_
        refine vo_pick_t rfl rfl ?_
        refine vo_nil ?_
        refine hK14 _ ?_
        refine vc_cond rfl (fun hc6 => ?_) (fun hc6 => ?_)
        · try simp only [decide_eq_true_eq, decide_eq_false_iff_not, beq_iff_eq, bne_iff_ne, beq_eq_false_iff_ne, bne_eq_false_iff_eq, Bool.not_eq_true, Bool.not_eq_false, Bool.not_eq_eq_eq_not, Bool.not_true, Bool.not_false, List.length_map, Int.not_lt, Int.not_le, ne_eq, Decidable.not_not] at hc6
          refine vc_region ?_
          refine vo_fieldAddr_ptr rfl rfl Try.underlying60 rfl inf3 (by rw [sz3]; decide) ?_
          try simp only [Nat.zero_add]
          refine vo_store_var rfl rfl rfl rfl inf3 sz3 rfl ?_
          refine vo_stM ?_
          refine vo_nil ?_
          refine hK13 _ ?_
          refine vc_seq fun K15 hK15 => ?_
          refine vc_region ?_
          refine vo_load_varS rfl rfl rfl Try.underlying60 rfl inf60 sz60 rfl rfl ?_
          refine vo_store_varS rfl rfl rfl inf60 sz60 rfl ?_
          refine vo_stM ?_
          refine vo_nil ?_
          refine hK15 _ ?_
          refine vc_ret ?_
          change retQ _ _ _ _ _
          refine retQ_sel [] (srows := []) (.inr rfl) hC rfl rfl rfl rfl rfl rfl rfl ?_
          refine ⟨fr_eq (?_ : FoundM.mk _ _ _ _ = _), rfl⟩
          unfold bindM
          repeat' split
          all_goals first | rfl | (exfalso; omega)
        · try simp only [decide_eq_true_eq, decide_eq_false_iff_not, beq_iff_eq, bne_iff_ne, beq_eq_false_iff_ne, bne_eq_false_iff_eq, Bool.not_eq_true, Bool.not_eq_false, Bool.not_eq_eq_eq_not, Bool.not_true, Bool.not_false, List.length_map, Int.not_lt, Int.not_le, ne_eq, Decidable.not_not] at hc6
          refine vc_skip ?_
          refine hK13 _ ?_
          refine vc_seq fun K16 hK16 => ?_
          refine vc_region ?_
          refine vo_load_varS rfl rfl rfl Try.underlying60 rfl inf60 sz60 rfl rfl ?_
          refine vo_store_varS rfl rfl rfl inf60 sz60 rfl ?_
          refine vo_stM ?_
          refine vo_nil ?_
          refine hK16 _ ?_
          refine vc_ret ?_
          change retQ _ _ _ _ _
          refine retQ_sel [] (srows := []) (.inr rfl) hC rfl rfl rfl rfl rfl rfl rfl ?_
          refine ⟨fr_eq (?_ : FoundM.mk _ _ _ _ = _), rfl⟩
          unfold bindM
          repeat' split
          all_goals first | rfl | (exfalso; omega)
      · try simp only [decide_eq_true_eq, decide_eq_false_iff_not, beq_iff_eq, bne_iff_ne, beq_eq_false_iff_ne, bne_eq_false_iff_eq, Bool.not_eq_true, Bool.not_eq_false, Bool.not_eq_eq_eq_not, Bool.not_true, Bool.not_false, List.length_map, Int.not_lt, Int.not_le, ne_eq, Decidable.not_not] at hg5
        refine vo_guard_off rfl rfl rfl rfl rfl ?_
        refine vo_guard_off rfl rfl rfl rfl rfl ?_
        refine vo_pick_f rfl rfl ?_
        refine vo_nil ?_
        refine hK14 _ ?_
        refine vc_cond_f rfl ?_
        refine vc_skip ?_
        refine hK13 _ ?_
        refine vc_seq fun K17 hK17 => ?_
        refine vc_region ?_
        refine vo_load_varS rfl rfl rfl Try.underlying60 rfl inf60 sz60 rfl rfl ?_
        refine vo_store_varS rfl rfl rfl inf60 sz60 rfl ?_
        refine vo_stM ?_
        refine vo_nil ?_
        refine hK17 _ ?_
        refine vc_ret ?_
        change retQ _ _ _ _ _
        refine retQ_sel [] (srows := []) (.inr rfl) hC rfl rfl rfl rfl rfl rfl rfl ?_
        refine ⟨fr_eq (?_ : FoundM.mk _ _ _ _ = _), rfl⟩
        unfold bindM
        repeat' split
        all_goals first | rfl | (exfalso; omega)
    · try simp only [decide_eq_true_eq, decide_eq_false_iff_not, beq_iff_eq, bne_iff_ne, beq_eq_false_iff_ne, bne_eq_false_iff_eq, Bool.not_eq_true, Bool.not_eq_false, Bool.not_eq_eq_eq_not, Bool.not_true, Bool.not_false, List.length_map, Int.not_lt, Int.not_le, ne_eq, Decidable.not_not] at hc4
      refine vc_seq fun K18 hK18 => ?_
      refine vc_seq fun K19 hK19 => ?_
      refine vc_region ?_
      refine vo_binI rfl rfl rfl rfl trivial ?_
      refine vo_assign_pv rfl rfl ?_
      refine vo_nil ?_
      refine hK19 _ ?_
      refine vc_cond rfl (fun hc7 => ?_) (fun hc7 => ?_)
      · try simp only [decide_eq_true_eq, decide_eq_false_iff_not, beq_iff_eq, bne_iff_ne, beq_eq_false_iff_ne, bne_eq_false_iff_eq, Bool.not_eq_true, Bool.not_eq_false, Bool.not_eq_eq_eq_not, Bool.not_true, Bool.not_false, List.length_map, Int.not_lt, Int.not_le, ne_eq, Decidable.not_not] at hc7
        refine vc_skip ?_
        refine hK18 _ ?_
        refine vc_cond rfl (fun hc8 => ?_) (fun hc8 => ?_)
        · try simp only [decide_eq_true_eq, decide_eq_false_iff_not, beq_iff_eq, bne_iff_ne, beq_eq_false_iff_ne, bne_eq_false_iff_eq, Bool.not_eq_true, Bool.not_eq_false, Bool.not_eq_eq_eq_not, Bool.not_true, Bool.not_false, List.length_map, Int.not_lt, Int.not_le, ne_eq, Decidable.not_not] at hc8
          refine vc_seq fun K20 hK20 => ?_
          refine vc_region ?_
          refine vo_move_pv rfl rfl ?_
          refine vo_binI rfl rfl rfl rfl trivial ?_
          refine vo_nil ?_
          refine hK20 _ ?_
          refine vc_cond rfl (fun hc9 => ?_) (fun hc9 => ?_)
          · try simp only [decide_eq_true_eq, decide_eq_false_iff_not, beq_iff_eq, bne_iff_ne, beq_eq_false_iff_ne, bne_eq_false_iff_eq, Bool.not_eq_true, Bool.not_eq_false, Bool.not_eq_eq_eq_not, Bool.not_true, Bool.not_false, List.length_map, Int.not_lt, Int.not_le, ne_eq, Decidable.not_not] at hc9
            refine vc_seq fun K21 hK21 => ?_
            refine vc_region ?_
            refine vo_fieldAddr_ptr rfl rfl Try.underlying60 rfl inf3 (by rw [sz3]; decide) ?_
            try simp only [Nat.zero_add]
            refine vo_store_var rfl rfl rfl rfl inf3 sz3 rfl ?_
            refine vo_stM ?_
            refine vo_nil ?_
            refine hK21 _ ?_
            refine vc_region ?_
            refine vo_move_pv rfl rfl ?_
            refine vo_fieldAddr_ptr rfl rfl Try.underlying60 rfl inf3 (by rw [sz3]; decide) ?_
            try simp only [Nat.zero_add]
            refine vo_store_var rfl rfl rfl rfl inf3 sz3 rfl ?_
            refine vo_stM ?_
            refine vo_nil ?_
            refine hK3 _ ?_
            refine vc_seq fun K22 hK22 => ?_
            refine vc_seq fun K23 hK23 => ?_
            refine vc_region ?_
            refine vo_fieldAddr_ptr rfl rfl Try.underlying73 rfl inf3 (by rw [sz3]; decide) ?_
            try simp only [Nat.zero_add]
            refine vo_load_var rfl rfl rfl Try.underlying3 rfl rfl ?_
            refine vo_binI rfl rfl rfl rfl trivial ?_
            refine vo_move_pv rfl rfl ?_
            refine vo_split 36 rfl (fun hg10 => ?_) (fun hg10 => ?_)
            · try simp only [decide_eq_true_eq, decide_eq_false_iff_not, beq_iff_eq, bne_iff_ne, beq_eq_false_iff_ne, bne_eq_false_iff_eq, Bool.not_eq_true, Bool.not_eq_false, Bool.not_eq_eq_eq_not, Bool.not_true, Bool.not_false, List.length_map, Int.not_lt, Int.not_le, ne_eq, Decidable.not_not] at hg10
              refine vo_guard_on rfl rfl rfl ?_
              refine vo_move_pv rfl rfl ?_
              refine vo_guard_on rfl rfl rfl ?_
              refine vo_binI rfl rfl rfl rfl trivial ?_
              refine vo_pick_t rfl rfl ?_
              refine vo_nil ?_
              refine hK23 _ ?_
              refine vc_cond rfl (fun hc11 => ?_) (fun hc11 => ?_)
              · try simp only [decide_eq_true_eq, decide_eq_false_iff_not, beq_iff_eq, bne_iff_ne, beq_eq_false_iff_ne, bne_eq_false_iff_eq, Bool.not_eq_true, Bool.not_eq_false, Bool.not_eq_eq_eq_not, Bool.not_true, Bool.not_false, List.length_map, Int.not_lt, Int.not_le, ne_eq, Decidable.not_not] at hc11
                refine vc_region ?_
                refine vo_fieldAddr_ptr rfl rfl Try.underlying60 rfl inf3 (by rw [sz3]; decide) ?_
                try simp only [Nat.zero_add]
                refine vo_store_var rfl rfl rfl rfl inf3 sz3 rfl ?_
                refine vo_stM ?_
                refine vo_nil ?_
                refine hK22 _ ?_
                refine vc_seq fun K24 hK24 => ?_
                refine vc_region ?_
                refine vo_load_varS rfl rfl rfl Try.underlying60 rfl inf60 sz60 rfl rfl ?_
                refine vo_store_varS rfl rfl rfl inf60 sz60 rfl ?_
                refine vo_stM ?_
                refine vo_nil ?_
                refine hK24 _ ?_
                refine vc_ret ?_
                change retQ _ _ _ _ _
                refine retQ_sel [] (srows := []) (.inr rfl) hC rfl rfl rfl rfl rfl rfl rfl ?_
                refine ⟨fr_eq (?_ : FoundM.mk _ _ _ _ = _), rfl⟩
                unfold bindM
                repeat' split
                all_goals first | rfl | (exfalso; omega)
              · try simp only [decide_eq_true_eq, decide_eq_false_iff_not, beq_iff_eq, bne_iff_ne, beq_eq_false_iff_ne, bne_eq_false_iff_eq, Bool.not_eq_true, Bool.not_eq_false, Bool.not_eq_eq_eq_not, Bool.not_true, Bool.not_false, List.length_map, Int.not_lt, Int.not_le, ne_eq, Decidable.not_not] at hc11
                refine vc_skip ?_
                refine hK22 _ ?_
                refine vc_seq fun K25 hK25 => ?_
                refine vc_region ?_
                refine vo_load_varS rfl rfl rfl Try.underlying60 rfl inf60 sz60 rfl rfl ?_
                refine vo_store_varS rfl rfl rfl inf60 sz60 rfl ?_
                refine vo_stM ?_
                refine vo_nil ?_
                refine hK25 _ ?_
                refine vc_ret ?_
                change retQ _ _ _ _ _
                refine retQ_sel [] (srows := []) (.inr rfl) hC rfl rfl rfl rfl rfl rfl rfl ?_
                refine ⟨fr_eq (?_ : FoundM.mk _ _ _ _ = _), rfl⟩
                unfold bindM
                repeat' split
                all_goals first | rfl | (exfalso; omega)
            · try simp only [decide_eq_true_eq, decide_eq_false_iff_not, beq_iff_eq, bne_iff_ne, beq_eq_false_iff_ne, bne_eq_false_iff_eq, Bool.not_eq_true, Bool.not_eq_false, Bool.not_eq_eq_eq_not, Bool.not_true, Bool.not_false, List.length_map, Int.not_lt, Int.not_le, ne_eq, Decidable.not_not] at hg10
              refine vo_guard_off rfl rfl rfl rfl rfl ?_
              refine vo_guard_off rfl rfl rfl rfl rfl ?_
              refine vo_pick_f rfl rfl ?_
              refine vo_nil ?_
              refine hK23 _ ?_
              refine vc_cond_f rfl ?_
              refine vc_skip ?_
              refine hK22 _ ?_
              refine vc_seq fun K26 hK26 => ?_
              refine vc_region ?_
              refine vo_load_varS rfl rfl rfl Try.underlying60 rfl inf60 sz60 rfl rfl ?_
              refine vo_store_varS rfl rfl rfl inf60 sz60 rfl ?_
              refine vo_stM ?_
              refine vo_nil ?_
              refine hK26 _ ?_
              refine vc_ret ?_
              change retQ _ _ _ _ _
              refine retQ_sel [] (srows := []) (.inr rfl) hC rfl rfl rfl rfl rfl rfl rfl ?_
              refine ⟨fr_eq (?_ : FoundM.mk _ _ _ _ = _), rfl⟩
              unfold bindM
              repeat' split
              all_goals first | rfl | (exfalso; omega)
          · try simp only [decide_eq_true_eq, decide_eq_false_iff_not, beq_iff_eq, bne_iff_ne, beq_eq_false_iff_ne, bne_eq_false_iff_eq, Bool.not_eq_true, Bool.not_eq_false, Bool.not_eq_eq_eq_not, Bool.not_true, Bool.not_false, List.length_map, Int.not_lt, Int.not_le, ne_eq, Decidable.not_not] at hc9
            refine vc_skip ?_
            refine hK3 _ ?_
            refine vc_seq fun K27 hK27 => ?_
            refine vc_seq fun K28 hK28 => ?_
            refine vc_region ?_
            refine vo_fieldAddr_ptr rfl rfl Try.underlying73 rfl inf3 (by rw [sz3]; decide) ?_
            try simp only [Nat.zero_add]
            refine vo_load_var rfl rfl rfl Try.underlying3 rfl rfl ?_
            refine vo_binI rfl rfl rfl rfl trivial ?_
            refine vo_move_pv rfl rfl ?_
            refine vo_split 36 rfl (fun hg12 => ?_) (fun hg12 => ?_)
            · try simp only [decide_eq_true_eq, decide_eq_false_iff_not, beq_iff_eq, bne_iff_ne, beq_eq_false_iff_ne, bne_eq_false_iff_eq, Bool.not_eq_true, Bool.not_eq_false, Bool.not_eq_eq_eq_not, Bool.not_true, Bool.not_false, List.length_map, Int.not_lt, Int.not_le, ne_eq, Decidable.not_not] at hg12
              refine vo_guard_on rfl rfl rfl ?_
              refine vo_move_pv rfl rfl ?_
              refine vo_guard_on rfl rfl rfl ?_
              refine vo_binI rfl rfl rfl rfl trivial ?_
              refine vo_pick_t rfl rfl ?_
              refine vo_nil ?_
              refine hK28 _ ?_
              refine vc_cond rfl (fun hc13 => ?_) (fun hc13 => ?_)
              · try simp only [decide_eq_true_eq, decide_eq_false_iff_not, beq_iff_eq, bne_iff_ne, beq_eq_false_iff_ne, bne_eq_false_iff_eq, Bool.not_eq_true, Bool.not_eq_false, Bool.not_eq_eq_eq_not, Bool.not_true, Bool.not_false, List.length_map, Int.not_lt, Int.not_le, ne_eq, Decidable.not_not] at hc13
                refine vc_region ?_
                refine vo_fieldAddr_ptr rfl rfl Try.underlying60 rfl inf3 (by rw [sz3]; decide) ?_
                try simp only [Nat.zero_add]
                refine vo_store_var rfl rfl rfl rfl inf3 sz3 rfl ?_
                refine vo_stM ?_
                refine vo_nil ?_
                refine hK27 _ ?_
                refine vc_seq fun K29 hK29 => ?_
                refine vc_region ?_
                refine vo_load_varS rfl rfl rfl Try.underlying60 rfl inf60 sz60 rfl rfl ?_
                refine vo_store_varS rfl rfl rfl inf60 sz60 rfl ?_
                refine vo_stM ?_
                refine vo_nil ?_
                refine hK29 _ ?_
                refine vc_ret ?_
                change retQ _ _ _ _ _
                refine retQ_sel [] (srows := []) (.inr rfl) hC rfl rfl rfl rfl rfl rfl rfl ?_
                refine ⟨fr_eq (?_ : FoundM.mk _ _ _ _ = _), rfl⟩
                unfold bindM
                repeat' split
                all_goals first | rfl | (exfalso; omega)
              · try simp only [decide_eq_true_eq, decide_eq_false_iff_not, beq_iff_eq, bne_iff_ne, beq_eq_false_iff_ne, bne_eq_false_iff_eq, Bool.not_eq_true, Bool.not_eq_false, Bool.not_eq_eq_eq_not, Bool.not_true, Bool.not_false, List.length_map, Int.not_lt, Int.not_le, ne_eq, Decidable.not_not] at hc13
                refine vc_skip ?_
                refine hK27 _ ?_
                refine vc_seq fun K30 hK30 => ?_
                refine vc_region ?_
                refine vo_load_varS rfl rfl rfl Try.underlying60 rfl inf60 sz60 rfl rfl ?_
                refine vo_store_varS rfl rfl rfl inf60 sz60 rfl ?_
                refine vo_stM ?_
                refine vo_nil ?_
                refine hK30 _ ?_
                refine vc_ret ?_
                change retQ _ _ _ _ _
                refine retQ_sel [] (srows := []) (.inr rfl) hC rfl rfl rfl rfl rfl rfl rfl ?_
                refine ⟨fr_eq (?_ : FoundM.mk _ _ _ _ = _), rfl⟩
                unfold bindM
                repeat' split
                all_goals first | rfl | (exfalso; omega)
            · try simp only [decide_eq_true_eq, decide_eq_false_iff_not, beq_iff_eq, bne_iff_ne, beq_eq_false_iff_ne, bne_eq_false_iff_eq, Bool.not_eq_true, Bool.not_eq_false, Bool.not_eq_eq_eq_not, Bool.not_true, Bool.not_false, List.length_map, Int.not_lt, Int.not_le, ne_eq, Decidable.not_not] at hg12
              refine vo_guard_off rfl rfl rfl rfl rfl ?_
              refine vo_guard_off rfl rfl rfl rfl rfl ?_
              refine vo_pick_f rfl rfl ?_
              refine vo_nil ?_
              refine hK28 _ ?_
              refine vc_cond_f rfl ?_
              refine vc_skip ?_
              refine hK27 _ ?_
              refine vc_seq fun K31 hK31 => ?_
              refine vc_region ?_
              refine vo_load_varS rfl rfl rfl Try.underlying60 rfl inf60 sz60 rfl rfl ?_
              refine vo_store_varS rfl rfl rfl inf60 sz60 rfl ?_
              refine vo_stM ?_
              refine vo_nil ?_
              refine hK31 _ ?_
              refine vc_ret ?_
              change retQ _ _ _ _ _
              refine retQ_sel [] (srows := []) (.inr rfl) hC rfl rfl rfl rfl rfl rfl rfl ?_
              refine ⟨fr_eq (?_ : FoundM.mk _ _ _ _ = _), rfl⟩
              unfold bindM
              repeat' split
              all_goals first | rfl | (exfalso; omega)
        · try simp only [decide_eq_true_eq, decide_eq_false_iff_not, beq_iff_eq, bne_iff_ne, beq_eq_false_iff_ne, bne_eq_false_iff_eq, Bool.not_eq_true, Bool.not_eq_false, Bool.not_eq_eq_eq_not, Bool.not_true, Bool.not_false, List.length_map, Int.not_lt, Int.not_le, ne_eq, Decidable.not_not] at hc8
          refine vc_skip ?_
          refine hK3 _ ?_
          refine vc_seq fun K32 hK32 => ?_
          refine vc_seq fun K33 hK33 => ?_
          refine vc_region ?_
          refine vo_fieldAddr_ptr rfl rfl Try.underlying73 rfl inf3 (by rw [sz3]; decide) ?_
          try simp only [Nat.zero_add]
          refine vo_load_var rfl rfl rfl Try.underlying3 rfl rfl ?_
          refine vo_binI rfl rfl rfl rfl trivial ?_
          refine vo_move_pv rfl rfl ?_
          refine vo_split 36 rfl (fun hg14 => ?_) (fun hg14 => ?_)
          · try simp only [decide_eq_true_eq, decide_eq_false_iff_not, beq_iff_eq, bne_iff_ne, beq_eq_false_iff_ne, bne_eq_false_iff_eq, Bool.not_eq_true, Bool.not_eq_false, Bool.not_eq_eq_eq_not, Bool.not_true, Bool.not_false, List.length_map, Int.not_lt, Int.not_le, ne_eq, Decidable.not_not] at hg14
            refine vo_guard_on rfl rfl rfl ?_
            refine vo_move_pv rfl rfl ?_
            refine vo_guard_on rfl rfl rfl ?_
            refine vo_binI rfl rfl rfl rfl trivial ?_
            refine vo_pick_t rfl rfl ?_
            refine vo_nil ?_
            refine hK33 _ ?_
            refine vc_cond rfl (fun hc15 => ?_) (fun hc15 => ?_)
            · try simp only [decide_eq_true_eq, decide_eq_false_iff_not, beq_iff_eq, bne_iff_ne, beq_eq_false_iff_ne, bne_eq_false_iff_eq, Bool.not_eq_true, Bool.not_eq_false, Bool.not_eq_eq_eq_not, Bool.not_true, Bool.not_false, List.length_map, Int.not_lt, Int.not_le, ne_eq, Decidable.not_not] at hc15
              refine vc_region ?_
              refine vo_fieldAddr_ptr rfl rfl Try.underlying60 rfl inf3 (by rw [sz3]; decide) ?_
              try simp only [Nat.zero_add]
              refine vo_store_var rfl rfl rfl rfl inf3 sz3 rfl ?_
              refine vo_stM ?_
              refine vo_nil ?_
              refine hK32 _ ?_
              refine vc_seq fun K34 hK34 => ?_
              refine vc_region ?_
              refine vo_load_varS rfl rfl rfl Try.underlying60 rfl inf60 sz60 rfl rfl ?_
              refine vo_store_varS rfl rfl rfl inf60 sz60 rfl ?_
              refine vo_stM ?_
              refine vo_nil ?_
              refine hK34 _ ?_
              refine vc_ret ?_
              change retQ _ _ _ _ _
              refine retQ_sel [] (srows := []) (.inr rfl) hC rfl rfl rfl rfl rfl rfl rfl ?_
              refine ⟨fr_eq (?_ : FoundM.mk _ _ _ _ = _), rfl⟩
              unfold bindM
              repeat' split
              all_goals first | rfl | (exfalso; omega)
            · try simp only [decide_eq_true_eq, decide_eq_false_iff_not, beq_iff_eq, bne_iff_ne, beq_eq_false_iff_ne, bne_eq_false_iff_eq, Bool.not_eq_true, Bool.not_eq_false, Bool.not_eq_eq_eq_not, Bool.not_true, Bool.not_false, List.length_map, Int.not_lt, Int.not_le, ne_eq, Decidable.not_not] at hc15
              refine vc_skip ?_
              refine hK32 _ ?_
              refine vc_seq fun K35 hK35 => ?_
              refine vc_region ?_
              refine vo_load_varS rfl rfl rfl Try.underlying60 rfl inf60 sz60 rfl rfl ?_
              refine vo_store_varS rfl rfl rfl inf60 sz60 rfl ?_
              refine vo_stM ?_
              refine vo_nil ?_
              refine hK35 _ ?_
              refine vc_ret ?_
              change retQ _ _ _ _ _
              refine retQ_sel [] (srows := []) (.inr rfl) hC rfl rfl rfl rfl rfl rfl rfl ?_
              refine ⟨fr_eq (?_ : FoundM.mk _ _ _ _ = _), rfl⟩
              unfold bindM
              repeat' split
              all_goals first | rfl | (exfalso; omega)
          · try simp only [decide_eq_true_eq, decide_eq_false_iff_not, beq_iff_eq, bne_iff_ne, beq_eq_false_iff_ne, bne_eq_false_iff_eq, Bool.not_eq_true, Bool.not_eq_false, Bool.not_eq_eq_eq_not, Bool.not_true, Bool.not_false, List.length_map, Int.not_lt, Int.not_le, ne_eq, Decidable.not_not] at hg14
            refine vo_guard_off rfl rfl rfl rfl rfl ?_
            refine vo_guard_off rfl rfl rfl rfl rfl ?_
            refine vo_pick_f rfl rfl ?_
            refine vo_nil ?_
            refine hK33 _ ?_
            refine vc_cond_f rfl ?_
            refine vc_skip ?_
            refine hK32 _ ?_
            refine vc_seq fun K36 hK36 => ?_
            refine vc_region ?_
            refine vo_load_varS rfl rfl rfl Try.underlying60 rfl inf60 sz60 rfl rfl ?_
            refine vo_store_varS rfl rfl rfl inf60 sz60 rfl ?_
            refine vo_stM ?_
            refine vo_nil ?_
            refine hK36 _ ?_
            refine vc_ret ?_
            change retQ _ _ _ _ _
            refine retQ_sel [] (srows := []) (.inr rfl) hC rfl rfl rfl rfl rfl rfl rfl ?_
            refine ⟨fr_eq (?_ : FoundM.mk _ _ _ _ = _), rfl⟩
            unfold bindM
            repeat' split
            all_goals first | rfl | (exfalso; omega)
      · try simp only [decide_eq_true_eq, decide_eq_false_iff_not, beq_iff_eq, bne_iff_ne, beq_eq_false_iff_ne, bne_eq_false_iff_eq, Bool.not_eq_true, Bool.not_eq_false, Bool.not_eq_eq_eq_not, Bool.not_true, Bool.not_false, List.length_map, Int.not_lt, Int.not_le, ne_eq, Decidable.not_not] at hc7
        refine vc_region ?_
        refine vo_binI rfl rfl rfl rfl trivial ?_
        refine vo_assign_pv rfl rfl ?_
        refine vo_nil ?_
        refine hK18 _ ?_
        refine vc_cond rfl (fun hc16 => ?_) (fun hc16 => ?_)
        · try simp only [decide_eq_true_eq, decide_eq_false_iff_not, beq_iff_eq, bne_iff_ne, beq_eq_false_iff_ne, bne_eq_false_iff_eq, Bool.not_eq_true, Bool.not_eq_false, Bool.not_eq_eq_eq_not, Bool.not_true, Bool.not_false, List.length_map, Int.not_lt, Int.not_le, ne_eq, Decidable.not_not] at hc16
          refine vc_seq fun K37 hK37 => ?_
          refine vc_region ?_
          refine vo_move_pv rfl rfl ?_
          refine vo_binI rfl rfl rfl rfl trivial ?_
          refine vo_nil ?_
          refine hK37 _ ?_
          refine vc_cond rfl (fun hc17 => ?_) (fun hc17 => ?_)
          · try simp only [decide_eq_true_eq, decide_eq_false_iff_not, beq_iff_eq, bne_iff_ne, beq_eq_false_iff_ne, bne_eq_false_iff_eq, Bool.not_eq_true, Bool.not_eq_false, Bool.not_eq_eq_eq_not, Bool.not_true, Bool.not_false, List.length_map, Int.not_lt, Int.not_le, ne_eq, Decidable.not_not] at hc17
            refine vc_seq fun K38 hK38 => ?_
            refine vc_region ?_
            refine vo_fieldAddr_ptr rfl rfl Try.underlying60 rfl inf3 (by rw [sz3]; decide) ?_
            try simp only [Nat.zero_add]
            refine vo_store_var rfl rfl rfl rfl inf3 sz3 rfl ?_
            refine vo_stM ?_
            refine vo_nil ?_
            refine hK38 _ ?_
            refine vc_region ?_
            refine vo_move_pv rfl rfl ?_
            refine vo_fieldAddr_ptr rfl rfl Try.underlying60 rfl inf3 (by rw [sz3]; decide) ?_
            try simp only [Nat.zero_add]
            refine vo_store_var rfl rfl rfl rfl inf3 sz3 rfl ?_
            refine vo_stM ?_
            refine vo_nil ?_
            refine hK3 _ ?_
            refine vc_seq fun K39 hK39 => ?_
            refine vc_seq fun K40 hK40 => ?_
            refine vc_region ?_
            refine vo_fieldAddr_ptr rfl rfl Try.underlying73 rfl inf3 (by rw [sz3]; decide) ?_
            try simp only [Nat.zero_add]
            refine vo_load_var rfl rfl rfl Try.underlying3 rfl rfl ?_
            refine vo_binI rfl rfl rfl rfl trivial ?_
            refine vo_move_pv rfl rfl ?_
            refine vo_split 36 rfl (fun hg18 => ?_) (fun hg18 => ?_)
            · try simp only [decide_eq_true_eq, decide_eq_false_iff_not, beq_iff_eq, bne_iff_ne, beq_eq_false_iff_ne, bne_eq_false_iff_eq, Bool.not_eq_true, Bool.not_eq_false, Bool.not_eq_eq_eq_not, Bool.not_true, Bool.not_false, List.length_map, Int.not_lt, Int.not_le, ne_eq, Decidable.not_not] at hg18
              refine vo_guard_on rfl rfl rfl ?_
              refine vo_move_pv rfl rfl ?_
              refine vo_guard_on rfl rfl rfl ?_
              refine vo_binI rfl rfl rfl rfl trivial ?_
              refine vo_pick_t rfl rfl ?_
              refine vo_nil ?_
              refine hK40 _ ?_
              refine vc_cond rfl (fun hc19 => ?_) (fun hc19 => ?_)
              · try simp only [decide_eq_true_eq, decide_eq_false_iff_not, beq_iff_eq, bne_iff_ne, beq_eq_false_iff_ne, bne_eq_false_iff_eq, Bool.not_eq_true, Bool.not_eq_false, Bool.not_eq_eq_eq_not, Bool.not_true, Bool.not_false, List.length_map, Int.not_lt, Int.not_le, ne_eq, Decidable.not_not] at hc19
                refine vc_region ?_
                refine vo_fieldAddr_ptr rfl rfl Try.underlying60 rfl inf3 (by rw [sz3]; decide) ?_
                try simp only [Nat.zero_add]
                refine vo_store_var rfl rfl rfl rfl inf3 sz3 rfl ?_
                refine vo_stM ?_
                refine vo_nil ?_
                refine hK39 _ ?_
                refine vc_seq fun K41 hK41 => ?_
                refine vc_region ?_
                refine vo_load_varS rfl rfl rfl Try.underlying60 rfl inf60 sz60 rfl rfl ?_
                refine vo_store_varS rfl rfl rfl inf60 sz60 rfl ?_
                refine vo_stM ?_
                refine vo_nil ?_
                refine hK41 _ ?_
                refine vc_ret ?_
                change retQ _ _ _ _ _
                refine retQ_sel [] (srows := []) (.inr rfl) hC rfl rfl rfl rfl rfl rfl rfl ?_
                refine ⟨fr_eq (?_ : FoundM.mk _ _ _ _ = _), rfl⟩
                unfold bindM
                repeat' split
                all_goals first | rfl | (exfalso; omega)
              · try simp only [decide_eq_true_eq, decide_eq_false_iff_not, beq_iff_eq, bne_iff_ne, beq_eq_false_iff_ne, bne_eq_false_iff_eq, Bool.not_eq_true, Bool.not_eq_false, Bool.not_eq_eq_eq_not, Bool.not_true, Bool.not_false, List.length_map, Int.not_lt, Int.not_le, ne_eq, Decidable.not_not] at hc19
                refine vc_skip ?_
                refine hK39 _ ?_
                refine vc_seq fun K42 hK42 => ?_
                refine vc_region ?_
                refine vo_load_varS rfl rfl rfl Try.underlying60 rfl inf60 sz60 rfl rfl ?_
                refine vo_store_varS rfl rfl rfl inf60 sz60 rfl ?_
                refine vo_stM ?_
                refine vo_nil ?_
                refine hK42 _ ?_
                refine vc_ret ?_
                change retQ _ _ _ _ _
                refine retQ_sel [] (srows := []) (.inr rfl) hC rfl rfl rfl rfl rfl rfl rfl ?_
                refine ⟨fr_eq (?_ : FoundM.mk _ _ _ _ = _), rfl⟩
                unfold bindM
                repeat' split
                all_goals first | rfl | (exfalso; omega)
            · try simp only [decide_eq_true_eq, decide_eq_false_iff_not, beq_iff_eq, bne_iff_ne, beq_eq_false_iff_ne, bne_eq_false_iff_eq, Bool.not_eq_true, Bool.not_eq_false, Bool.not_eq_eq_eq_not, Bool.not_true, Bool.not_false, List.length_map, Int.not_lt, Int.not_le, ne_eq, Decidable.not_not] at hg18
              refine vo_guard_off rfl rfl rfl rfl rfl ?_
              refine vo_guard_off rfl rfl rfl rfl rfl ?_
              refine vo_pick_f rfl rfl ?_
              refine vo_nil ?_
              refine hK40 _ ?_
              refine vc_cond_f rfl ?_
              refine vc_skip ?_
              refine hK39 _ ?_
              refine vc_seq fun K43 hK43 => ?_
              refine vc_region ?_
              refine vo_load_varS rfl rfl rfl Try.underlying60 rfl inf60 sz60 rfl rfl ?_
              refine vo_store_varS rfl rfl rfl inf60 sz60 rfl ?_
              refine vo_stM ?_
              refine vo_nil ?_
              refine hK43 _ ?_
              refine vc_ret ?_
              change retQ _ _ _ _ _
              refine retQ_sel [] (srows := []) (.inr rfl) hC rfl rfl rfl rfl rfl rfl rfl ?_
              refine ⟨fr_eq (?_ : FoundM.mk _ _ _ _ = _), rfl⟩
              unfold bindM
              repeat' split
              all_goals first | rfl | (exfalso; omega)
          · try simp only [decide_eq_true_eq, decide_eq_false_iff_not, beq_iff_eq, bne_iff_ne, beq_eq_false_iff_ne, bne_eq_false_iff_eq, Bool.not_eq_true, Bool.not_eq_false, Bool.not_eq_eq_eq_not, Bool.not_true, Bool.not_false, List.length_map, Int.not_lt, Int.not_le, ne_eq, Decidable.not_not] at hc17
            refine vc_skip ?_
            refine hK3 _ ?_
            refine vc_seq fun K44 hK44 => ?_
            refine vc_seq fun K45 hK45 => ?_
            refine vc_region ?_
            refine vo_fieldAddr_ptr rfl rfl Try.underlying73 rfl inf3 (by rw [sz3]; decide) ?_
            try simp only [Nat.zero_add]
            refine vo_load_var rfl rfl rfl Try.underlying3 rfl rfl ?_
            refine vo_binI rfl rfl rfl rfl trivial ?_
            refine vo_move_pv rfl rfl ?_
            refine vo_split 36 rfl (fun hg20 => ?_) (fun hg20 => ?_)
            · try simp only [decide_eq_true_eq, decide_eq_false_iff_not, beq_iff_eq, bne_iff_ne, beq_eq_false_iff_ne, bne_eq_false_iff_eq, Bool.not_eq_true, Bool.not_eq_false, Bool.not_eq_eq_eq_not, Bool.not_true, Bool.not_false, List.length_map, Int.not_lt, Int.not_le, ne_eq, Decidable.not_not] at hg20
              refine vo_guard_on rfl rfl rfl ?_
              refine vo_move_pv rfl rfl ?_
              refine vo_guard_on rfl rfl rfl ?_
              refine vo_binI rfl rfl rfl rfl trivial ?_
              refine vo_pick_t rfl rfl ?_
              refine vo_nil ?_
              refine hK45 _ ?_
              refine vc_cond rfl (fun hc21 => ?_) (fun hc21 => ?_)
              · try simp only [decide_eq_true_eq, decide_eq_false_iff_not, beq_iff_eq, bne_iff_ne, beq_eq_false_iff_ne, bne_eq_false_iff_eq, Bool.not_eq_true, Bool.not_eq_false, Bool.not_eq_eq_eq_not, Bool.not_true, Bool.not_false, List.length_map, Int.not_lt, Int.not_le, ne_eq, Decidable.not_not] at hc21
                refine vc_region ?_
                refine vo_fieldAddr_ptr rfl rfl Try.underlying60 rfl inf3 (by rw [sz3]; decide) ?_
                try simp only [Nat.zero_add]
                refine vo_store_var rfl rfl rfl rfl inf3 sz3 rfl ?_
                refine vo_stM ?_
                refine vo_nil ?_
                refine hK44 _ ?_
                refine vc_seq fun K46 hK46 => ?_
                refine vc_region ?_
                refine vo_load_varS rfl rfl rfl Try.underlying60 rfl inf60 sz60 rfl rfl ?_
                refine vo_store_varS rfl rfl rfl inf60 sz60 rfl ?_
                refine vo_stM ?_
                refine vo_nil ?_
                refine hK46 _ ?_
                refine vc_ret ?_
                change retQ _ _ _ _ _
                refine retQ_sel [] (srows := []) (.inr rfl) hC rfl rfl rfl rfl rfl rfl rfl ?_
                refine ⟨fr_eq (?_ : FoundM.mk _ _ _ _ = _), rfl⟩
                unfold bindM
                repeat' split
                all_goals first | rfl | (exfalso; omega)
              · try simp only [decide_eq_true_eq, decide_eq_false_iff_not, beq_iff_eq, bne_iff_ne, beq_eq_false_iff_ne, bne_eq_false_iff_eq, Bool.not_eq_true, Bool.not_eq_false, Bool.not_eq_eq_eq_not, Bool.not_true, Bool.not_false, List.length_map, Int.not_lt, Int.not_le, ne_eq, Decidable.not_not] at hc21
                refine vc_skip ?_
                refine hK44 _ ?_
                refine vc_seq fun K47 hK47 => ?_
                refine vc_region ?_
                refine vo_load_varS rfl rfl rfl Try.underlying60 rfl inf60 sz60 rfl rfl ?_
                refine vo_store_varS rfl rfl rfl inf60 sz60 rfl ?_
                refine vo_stM ?_
                refine vo_nil ?_
                refine hK47 _ ?_
                refine vc_ret ?_
                change retQ _ _ _ _ _
                refine retQ_sel [] (srows := []) (.inr rfl) hC rfl rfl rfl rfl rfl rfl rfl ?_
                refine ⟨fr_eq (?_ : FoundM.mk _ _ _ _ = _), rfl⟩
                unfold bindM
                repeat' split
                all_goals first | rfl | (exfalso; omega)
            · try simp only [decide_eq_true_eq, decide_eq_false_iff_not, beq_iff_eq, bne_iff_ne, beq_eq_false_iff_ne, bne_eq_false_iff_eq, Bool.not_eq_true, Bool.not_eq_false, Bool.not_eq_eq_eq_not, Bool.not_true, Bool.not_false, List.length_map, Int.not_lt, Int.not_le, ne_eq, Decidable.not_not] at hg20
              refine vo_guard_off rfl rfl rfl rfl rfl ?_
              refine vo_guard_off rfl rfl rfl rfl rfl ?_
              refine vo_pick_f rfl rfl ?_
              refine vo_nil ?_
              refine hK45 _ ?_
              refine vc_cond_f rfl ?_
              refine vc_skip ?_
              refine hK44 _ ?_
              refine vc_seq fun K48 hK48 => ?_
              refine vc_region ?_
              refine vo_load_varS rfl rfl rfl Try.underlying60 rfl inf60 sz60 rfl rfl ?_
              refine vo_store_varS rfl rfl rfl inf60 sz60 rfl ?_
              refine vo_stM ?_
              refine vo_nil ?_
              refine hK48 _ ?_
              refine vc_ret ?_
              change retQ _ _ _ _ _
              refine retQ_sel [] (srows := []) (.inr rfl) hC rfl rfl rfl rfl rfl rfl rfl ?_
              refine ⟨fr_eq (?_ : FoundM.mk _ _ _ _ = _), rfl⟩
              unfold bindM
              repeat' split
              all_goals first | rfl | (exfalso; omega)
        · try simp only [decide_eq_true_eq, decide_eq_false_iff_not, beq_iff_eq, bne_iff_ne, beq_eq_false_iff_ne, bne_eq_false_iff_eq, Bool.not_eq_true, Bool.not_eq_false, Bool.not_eq_eq_eq_not, Bool.not_true, Bool.not_false, List.length_map, Int.not_lt, Int.not_le, ne_eq, Decidable.not_not] at hc16
          refine vc_skip ?_
          refine hK3 _ ?_
          refine vc_seq fun K49 hK49 => ?_
          refine vc_seq fun K50 hK50 => ?_
          refine vc_region ?_
          refine vo_fieldAddr_ptr rfl rfl Try.underlying73 rfl inf3 (by rw [sz3]; decide) ?_
          try simp only [Nat.zero_add]
          refine vo_load_var rfl rfl rfl Try.underlying3 rfl rfl ?_
          refine vo_binI rfl rfl rfl rfl trivial ?_
          refine vo_move_pv rfl rfl ?_
          refine vo_split 36 rfl (fun hg22 => ?_) (fun hg22 => ?_)
          · try simp only [decide_eq_true_eq, decide_eq_false_iff_not, beq_iff_eq, bne_iff_ne, beq_eq_false_iff_ne, bne_eq_false_iff_eq, Bool.not_eq_true, Bool.not_eq_false, Bool.not_eq_eq_eq_not, Bool.not_true, Bool.not_false, List.length_map, Int.not_lt, Int.not_le, ne_eq, Decidable.not_not] at hg22
            refine vo_guard_on rfl rfl rfl ?_
            refine vo_move_pv rfl rfl ?_
            refine vo_guard_on rfl rfl rfl ?_
            refine vo_binI rfl rfl rfl rfl trivial ?_
            refine vo_pick_t rfl rfl ?_
            refine vo_nil ?_
            refine hK50 _ ?_
            refine vc_cond rfl (fun hc23 => ?_) (fun hc23 => ?_)
            · try simp only [decide_eq_true_eq, decide_eq_false_iff_not, beq_iff_eq, bne_iff_ne, beq_eq_false_iff_ne, bne_eq_false_iff_eq, Bool.not_eq_true, Bool.not_eq_false, Bool.not_eq_eq_eq_not, Bool.not_true, Bool.not_false, List.length_map, Int.not_lt, Int.not_le, ne_eq, Decidable.not_not] at hc23
              refine vc_region ?_
              refine vo_fieldAddr_ptr rfl rfl Try.underlying60 rfl inf3 (by rw [sz3]; decide) ?_
              try simp only [Nat.zero_add]
              refine vo_store_var rfl rfl rfl rfl inf3 sz3 rfl ?_
              refine vo_stM ?_
              refine vo_nil ?_
              refine hK49 _ ?_
              refine vc_seq fun K51 hK51 => ?_
              refine vc_region ?_
              refine vo_load_varS rfl rfl rfl Try.underlying60 rfl inf60 sz60 rfl rfl ?_
              refine vo_store_varS rfl rfl rfl inf60 sz60 rfl ?_
              refine vo_stM ?_
              refine vo_nil ?_
              refine hK51 _ ?_
              refine vc_ret ?_
              change retQ _ _ _ _ _
              refine retQ_sel [] (srows := []) (.inr rfl) hC rfl rfl rfl rfl rfl rfl rfl ?_
              refine ⟨fr_eq (?_ : FoundM.mk _ _ _ _ = _), rfl⟩
              unfold bindM
              repeat' split
              all_goals first | rfl | (exfalso; omega)
            · try simp only [decide_eq_true_eq, decide_eq_false_iff_not, beq_iff_eq, bne_iff_ne, beq_eq_false_iff_ne, bne_eq_false_iff_eq, Bool.not_eq_true, Bool.not_eq_false, Bool.not_eq_eq_eq_not, Bool.not_true, Bool.not_false, List.length_map, Int.not_lt, Int.not_le, ne_eq, Decidable.not_not] at hc23
              refine vc_skip ?_
              refine hK49 _ ?_
              refine vc_seq fun K52 hK52 => ?_
              refine vc_region ?_
              refine vo_load_varS rfl rfl rfl Try.underlying60 rfl inf60 sz60 rfl rfl ?_
              refine vo_store_varS rfl rfl rfl inf60 sz60 rfl ?_
              refine vo_stM ?_
              refine vo_nil ?_
              refine hK52 _ ?_
              refine vc_ret ?_
              change retQ _ _ _ _ _
              refine retQ_sel [] (srows := []) (.inr rfl) hC rfl rfl rfl rfl rfl rfl rfl ?_
              refine ⟨fr_eq (?_ : FoundM.mk _ _ _ _ = _), rfl⟩
              unfold bindM
              repeat' split
              all_goals first | rfl | (exfalso; omega)
          · try simp only [decide_eq_true_eq, decide_eq_false_iff_not, beq_iff_eq, bne_iff_ne, beq_eq_false_iff_ne, bne_eq_false_iff_eq, Bool.not_eq_true, Bool.not_eq_false, Bool.not_eq_eq_eq_not, Bool.not_true, Bool.not_false, List.length_map, Int.not_lt, Int.not_le, ne_eq, Decidable.not_not] at hg22
            refine vo_guard_off rfl rfl rfl rfl rfl ?_
            refine vo_guard_off rfl rfl rfl rfl rfl ?_
            refine vo_pick_f rfl rfl ?_
            refine vo_nil ?_
            refine hK50 _ ?_
            refine vc_cond_f rfl ?_
            refine vc_skip ?_
            refine hK49 _ ?_
            refine vc_seq fun K53 hK53 => ?_
            refine vc_region ?_
            refine vo_load_varS rfl rfl rfl Try.underlying60 rfl inf60 sz60 rfl rfl ?_
            refine vo_store_varS rfl rfl rfl inf60 sz60 rfl ?_
            refine vo_stM ?_
            refine vo_nil ?_
            refine hK53 _ ?_
            refine vc_ret ?_
            change retQ _ _ _ _ _
            refine retQ_sel [] (srows := []) (.inr rfl) hC rfl rfl rfl rfl rfl rfl rfl ?_
            refine ⟨fr_eq (?_ : FoundM.mk _ _ _ _ = _), rfl⟩
            unfold bindM
            repeat' split
            all_goals first | rfl | (exfalso; omega)


theorem eqFound_sat {a : FoundM} {b : FoundM}   : SatAt Try.prog 39 [.pv false (foundP a), .pv false (foundP b)] [] (fun res rows => res = [bo (decide (a = b))] ∧ rows = []) := by
  refine sat_entry_G (rs := [(4, none)]) Try.func39 rfl rfl (Nat.le_of_ble_eq_true rfl) (Nat.le_of_ble_eq_true rfl) (resTs1 trivial) fun C hC => ?_
  rw [Try.ntmps39]
  replace hC : C.nb = 0 := hC
  refine vc_seq fun K1 hK1 => ?_
  refine vc_region ?_
  refine vo_box rfl rfl ?_
  refine vo_stM ?_
  refine vo_box rfl rfl ?_
  refine vo_stM ?_
  refine vo_assign_pv rfl rfl ?_
  refine vo_nil ?_
  refine hK1 _ ?_
  refine vc_seq fun K2 hK2 => ?_
  refine vc_seq fun K3 hK3 => ?_
  refine vc_region ?_
  refine vo_fieldAddr_ptr rfl rfl Try.underlying60 rfl inf3 (by rw [sz3]; decide) ?_
  try simp only [Nat.zero_add]
  refine vo_load_var rfl rfl rfl Try.underlying3 rfl rfl ?_
  refine vo_fieldAddr_ptr rfl rfl Try.underlying60 rfl inf3 (by rw [sz3]; decide) ?_
  try simp only [Nat.zero_add]
  refine vo_load_var rfl rfl rfl Try.underlying3 rfl rfl ?_
  refine vo_binI rfl rfl rfl rfl trivial ?_
  refine vo_nil ?_
  refine hK3 _ ?_
  refine vc_cond rfl (fun hc1 => ?_) (fun hc1 => ?_)
  · try simp only [decide_eq_true_eq, decide_eq_false_iff_not, beq_iff_eq, bne_iff_ne, beq_eq_false_iff_ne, bne_eq_false_iff_eq, Bool.not_eq_true, Bool.not_eq_false, Bool.not_eq_eq_eq_not, Bool.not_true, Bool.not_false, List.length_map, Int.not_lt, Int.not_le, ne_eq, Decidable.not_not] at hc1
    refine vc_seq fun K4 hK4 => ?_
    refine vc_region ?_
    refine vo_assign_pv rfl rfl ?_
    refine vo_nil ?_
    refine hK4 _ ?_
    refine vc_ret ?_
    change retQ _ _ _ _ _
    refine retQ_sel [] (srows := []) (.inr rfl) hC rfl rfl rfl rfl rfl rfl rfl ?_
    refine ⟨?_, rfl⟩
    refine (congrArg (fun b => [bo b]) (?_ : _ = _) : [bo _] = [bo _])
    cases a; cases b; simp_all
  · try simp only [decide_eq_true_eq, decide_eq_false_iff_not, beq_iff_eq, bne_iff_ne, beq_eq_false_iff_ne, bne_eq_false_iff_eq, Bool.not_eq_true, Bool.not_eq_false, Bool.not_eq_eq_eq_not, Bool.not_true, Bool.not_false, List.length_map, Int.not_lt, Int.not_le, ne_eq, Decidable.not_not] at hc1
    refine vc_skip ?_
    refine hK2 _ ?_
    refine vc_seq fun K5 hK5 => ?_
    refine vc_seq fun K6 hK6 => ?_
    refine vc_region ?_
    refine vo_fieldAddr_ptr rfl rfl Try.underlying60 rfl inf3 (by rw [sz3]; decide) ?_
    try simp only [Nat.zero_add]
    refine vo_load_var rfl rfl rfl Try.underlying3 rfl rfl ?_
    refine vo_fieldAddr_ptr rfl rfl Try.underlying60 rfl inf3 (by rw [sz3]; decide) ?_
    try simp only [Nat.zero_add]
    refine vo_load_var rfl rfl rfl Try.underlying3 rfl rfl ?_
    refine vo_binI rfl rfl rfl rfl trivial ?_
    refine vo_nil ?_
    refine hK6 _ ?_
    refine vc_cond rfl (fun hc2 => ?_) (fun hc2 => ?_)
    · try simp only [decide_eq_true_eq, decide_eq_false_iff_not, beq_iff_eq, bne_iff_ne, beq_eq_false_iff_ne, bne_eq_false_iff_eq, Bool.not_eq_true, Bool.not_eq_false, Bool.not_eq_eq_eq_not, Bool.not_true, Bool.not_false, List.length_map, Int.not_lt, Int.not_le, ne_eq, Decidable.not_not] at hc2
      refine vc_seq fun K7 hK7 => ?_
      refine vc_region ?_
      refine vo_assign_pv rfl rfl ?_
      refine vo_nil ?_
      refine hK7 _ ?_
      refine vc_ret ?_
      change retQ _ _ _ _ _
      refine retQ_sel [] (srows := []) (.inr rfl) hC rfl rfl rfl rfl rfl rfl rfl ?_
      refine ⟨?_, rfl⟩
      refine (congrArg (fun b => [bo b]) (?_ : _ = _) : [bo _] = [bo _])
      cases a; cases b; simp_all
    · try simp only [decide_eq_true_eq, decide_eq_false_iff_not, beq_iff_eq, bne_iff_ne, beq_eq_false_iff_ne, bne_eq_false_iff_eq, Bool.not_eq_true, Bool.not_eq_false, Bool.not_eq_eq_eq_not, Bool.not_true, Bool.not_false, List.length_map, Int.not_lt, Int.not_le, ne_eq, Decidable.not_not] at hc2
      refine vc_skip ?_
      refine hK5 _ ?_
      refine vc_seq fun K8 hK8 => ?_
      refine vc_seq fun K9 hK9 => ?_
      refine vc_region ?_
      refine vo_fieldAddr_ptr rfl rfl Try.underlying60 rfl inf3 (by rw [sz3]; decide) ?_
      try simp only [Nat.zero_add]
      refine vo_load_var rfl rfl rfl Try.underlying3 rfl rfl ?_
      refine vo_fieldAddr_ptr rfl rfl Try.underlying60 rfl inf3 (by rw [sz3]; decide) ?_
      try simp only [Nat.zero_add]
      refine vo_load_var rfl rfl rfl Try.underlying3 rfl rfl ?_
      refine vo_binI rfl rfl rfl rfl trivial ?_
      refine vo_nil ?_
      refine hK9 _ ?_
      refine vc_cond rfl (fun hc3 => ?_) (fun hc3 => ?_)
      · try simp only [decide_eq_true_eq, decide_eq_false_iff_not, beq_iff_eq, bne_iff_ne, beq_eq_false_iff_ne, bne_eq_false_iff_eq, Bool.not_eq_true, Bool.not_eq_false, Bool.not_eq_eq_eq_not, Bool.not_true, Bool.not_false, List.length_map, Int.not_lt, Int.not_le, ne_eq, Decidable.not_not] at hc3
        refine vc_seq fun K10 hK10 => ?_
        refine vc_region ?_
        refine vo_assign_pv rfl rfl ?_
        refine vo_nil ?_
        refine hK10 _ ?_
        refine vc_ret ?_
        change retQ _ _ _ _ _
        refine retQ_sel [] (srows := []) (.inr rfl) hC rfl rfl rfl rfl rfl rfl rfl ?_
        refine ⟨?_, rfl⟩
        refine (congrArg (fun b => [bo b]) (?_ : _ = _) : [bo _] = [bo _])
        cases a; cases b; simp_all
      · try simp only [decide_eq_true_eq, decide_eq_false_iff_not, beq_iff_eq, bne_iff_ne, beq_eq_false_iff_ne, bne_eq_false_iff_eq, Bool.not_eq_true, Bool.not_eq_false, Bool.not_eq_eq_eq_not, Bool.not_true, Bool.not_false, List.length_map, Int.not_lt, Int.not_le, ne_eq, Decidable.not_not] at hc3
        refine vc_skip ?_
        refine hK8 _ ?_
        refine vc_seq fun K11 hK11 => ?_
        refine vc_seq fun K12 hK12 => ?_
        refine vc_region ?_
        refine vo_fieldAddr_ptr rfl rfl Try.underlying60 rfl inf3 (by rw [sz3]; decide) ?_
        try simp only [Nat.zero_add]
        refine vo_load_var rfl rfl rfl Try.underlying3 rfl rfl ?_
        refine vo_fieldAddr_ptr rfl rfl Try.underlying60 rfl inf3 (by rw [sz3]; decide) ?_
        try simp only [Nat.zero_add]
        refine vo_load_var rfl rfl rfl Try.underlying3 rfl rfl ?_
        refine vo_binI rfl rfl rfl rfl trivial ?_
        refine vo_nil ?_
        refine hK12 _ ?_
        refine vc_cond rfl (fun hc4 => ?_) (fun hc4 => ?_)
        · try simp only [decide_eq_true_eq, decide_eq_false_iff_not, beq_iff_eq, bne_iff_ne, beq_eq_false_iff_ne, bne_eq_false_iff_eq, Bool.not_eq_true, Bool.not_eq_false, Bool.not_eq_eq_eq_not, Bool.not_true, Bool.not_false, List.length_map, Int.not_lt, Int.not_le, ne_eq, Decidable.not_not] at hc4
          refine vc_seq fun K13 hK13 => ?_
          refine vc_region ?_
          refine vo_assign_pv rfl rfl ?_
          refine vo_nil ?_
          refine hK13 _ ?_
          refine vc_ret ?_
          change retQ _ _ _ _ _
          refine retQ_sel [] (srows := []) (.inr rfl) hC rfl rfl rfl rfl rfl rfl rfl ?_
          refine ⟨?_, rfl⟩
          refine (congrArg (fun b => [bo b]) (?_ : _ = _) : [bo _] = [bo _])
          cases a; cases b; simp_all
        · try simp only [decide_eq_true_eq, decide_eq_false_iff_not, beq_iff_eq, bne_iff_ne, beq_eq_false_iff_ne, bne_eq_false_iff_eq, Bool.not_eq_true, Bool.not_eq_false, Bool.not_eq_eq_eq_not, Bool.not_true, Bool.not_false, List.length_map, Int.not_lt, Int.not_le, ne_eq, Decidable.not_not] at hc4
          refine vc_skip ?_
          refine hK11 _ ?_
          refine vc_seq fun K14 hK14 => ?_
          refine vc_region ?_
          refine vo_assign_pv rfl rfl ?_
          refine vo_nil ?_
          refine hK14 _ ?_
          refine vc_ret ?_
          change retQ _ _ _ _ _
          refine retQ_sel [] (srows := []) (.inr rfl) hC rfl rfl rfl rfl rfl rfl rfl ?_
          refine ⟨?_, rfl⟩
          refine (congrArg (fun b => [bo b]) (?_ : _ = _) : [bo _] = [bo _])
          cases a; cases b; simp_all


theorem findFromK_sat {w : WorldM} {nl1 : Option Bool} {order : List Int} {fr : Nat} {name : Int}  (hfr : fr ≤ order.length) (hA0 : w.attrs.length ≤ 2000000) (hA : ∀ l ∈ w.attrs, l.length ≤ 2000000) (ho : OrdIn w.attrs.length order) : SatAt Try.prog 98 [.pv false (worldP w), .pv false (.sl nl1 1 (order.map intP)), i64 fr, i64 name] [] (fun res rows => res = [i64 (fnd w.attrs name (order.drop fr)).1, .pv true (attrP (fnd w.attrs name (order.drop fr)).2)] ∧ rows = []) := by
  obtain ⟨ho1, ho2⟩ := ho
  refine sat_entry_G (rs := [(8, none), (9, some (73, 3))]) Try.func98 rfl rfl (Nat.le_of_ble_eq_true rfl) (Nat.le_of_ble_eq_true rfl) (resTs2 trivial ⟨_, _, Try.underlying73, rfl, inf73, sz73⟩) fun C hC => ?_
  rw [Try.ntmps98]
  replace hC : C.nb = 0 := hC
  refine vc_seq fun K1 hK1 => ?_
  refine vc_region ?_
  refine vo_box rfl rfl ?_
  refine vo_stM ?_
  refine vo_assign_pv rfl rfl ?_
  refine vo_alloc Z73 rfl ?_
  refine vo_stM ?_
  refine vo_nil ?_
  refine hK1 _ ?_
  refine vc_seq fun K2 hK2 => ?_
  refine vc_seq fun K3 hK3 => ?_
  refine vc_region ?_
  refine vo_move_pv rfl rfl ?_
  refine vo_assign_pv rfl rfl ?_
  refine vo_nil ?_
  refine hK3 _ ?_
  refine vc_block ?_
  refine vc_stM ?_
  refine vc_loopE [1, 3, 4, 9] [10] [] _ _ (fun mz vs rs => ∃ (k : Nat), mz = order.length - k ∧ (k ≤ order.length) ∧ (fnd w.attrs name (order.drop fr) = fnd w.attrs name (order.drop k)) ∧ vs = [i64 k] ∧ rs = []) (order.length - fr) rfl rfl (le_len hC rfl) ⟨rfl, rfl, rfl⟩ rfl ⟨fr, rfl, hfr, rfl, rfl, rfl⟩ ?_
  rintro mz vs rs - - ⟨k, rfl, hk, hf, rfl, rfl⟩
  refine vc_stM ?_
  refine vc_seq fun K4 hK4 => ?_
  refine vc_seq fun K5 hK5 => ?_
  refine vc_region ?_
  refine vo_move_pv rfl rfl ?_
  refine vo_move_pv rfl rfl ?_
  refine vo_len_pv rfl rfl Try.underlying36 ?_
  refine vo_binI rfl rfl rfl rfl trivial ?_
  refine vo_nil ?_
  refine hK5 _ ?_
  refine vc_cond rfl (fun hc1 => ?_) (fun hc1 => ?_)
  · try simp only [decide_eq_true_eq, decide_eq_false_iff_not, beq_iff_eq, bne_iff_ne, beq_eq_false_iff_ne, bne_eq_false_iff_eq, Bool.not_eq_true, Bool.not_eq_false, Bool.not_eq_eq_eq_not, Bool.not_true, Bool.not_false, List.length_map, Int.not_lt, Int.not_le, ne_eq, Decidable.not_not] at hc1
    have hin := ho2 _ (getD_mem (show k < order.length by omega) 0)
    have hak := (getD_all (p := fun l : List AttrM => l.length ≤ 2000000) hA [] (by simp) (order.getD k 0).toNat)
    refine vc_skip ?_
    refine hK4 _ ?_
    refine vc_seq fun K6 hK6 => ?_
    refine vc_block ?_
    refine vc_seq fun K7 hK7 => ?_
    refine vc_draw (by kernel_rfl) ?_
    change VD _ _ _ 11 _ _ _
    refine vd_light 0 rfl rfl rfl (by kernel_rfl) (by kernel_rfl) (by kernel_rfl) (wnt_none rfl) (lt_fieldAddr_ptr rfl Try.underlying65 rfl inf62 (by rw [sz62]; decide)) ?_
    try simp only [Nat.zero_add]
    refine vd_light 1 rfl rfl rfl (by kernel_rfl) (by kernel_rfl) (by kernel_rfl) (wnt_none rfl) (lt_load_var rfl rfl Try.underlying62 rfl rfl) ?_
    refine vd_light 2 rfl rfl rfl (by kernel_rfl) (by kernel_rfl) (by kernel_rfl) (wnt_none rfl) (lt_move_pv rfl) ?_
    refine vd_light 3 rfl rfl rfl (by kernel_rfl) (by kernel_rfl) (by kernel_rfl) (wnt_none rfl) (lt_move_pv rfl) ?_
    refine vd_light 4 rfl rfl rfl (by kernel_rfl) (by kernel_rfl) (by kernel_rfl) (wnt_none rfl) (lt_index_pv (.int .i64 0) rfl rfl E36.und inf3 sz3 sd sd) ?_
    simp only [Int.toNat_natCast, Int.toNat_zero, getD_ints, getD_intss, getD_bools, getD_bytes, PV.cells, getD_ops, getD_pairs, getD_insts, getD_attrs, getD_attrss, getD_objs, getD_ordP]
    refine vd_light 5 rfl rfl rfl (by kernel_rfl) (by kernel_rfl) (by kernel_rfl) (wnt_none rfl) (lt_load_adr rfl Try.underlying3 rfl) ?_
    refine vd_light 6 rfl rfl rfl (by kernel_rfl) (by kernel_rfl) (by kernel_rfl) (wnt_none rfl) (lt_index_pv (.sl none 3 []) rfl rfl E62.und inf84 sz84 sd sd) ?_
    simp only [Int.toNat_natCast, Int.toNat_zero, getD_ints, getD_intss, getD_bools, getD_bytes, PV.cells, getD_ops, getD_pairs, getD_insts, getD_attrs, getD_attrss, getD_objs, getD_ordP]
    refine vd_light 7 rfl rfl rfl (by kernel_rfl) (by kernel_rfl) (by kernel_rfl) (wnt_none rfl) (lt_load_adr rfl Try.underlying84 rfl) ?_
    refine vd_light 8 rfl rfl rfl (by kernel_rfl) (by kernel_rfl) (by kernel_rfl) (wnt_none rfl) (lt_move_pv rfl) ?_
    refine vd_call 9 rfl (by kernel_rfl) (wnt_none rfl) Try.func144 rfl rfl rfl rfl (attrAt_sat (by omega)) ?_
    rintro _ _ ⟨rfl, rfl⟩
    refine ⟨rfl, rfl, .inl rfl, ?_⟩
    refine vd_stM ?_
    refine vd_light 10 rfl rfl rfl (by kernel_rfl) (by kernel_rfl) (by kernel_rfl) (wnt_none rfl) (lt_assign_pv rfl) ?_
    refine vd_nil (by kernel_rfl) ?_
    refine hK7 _ ?_
    refine vc_seq fun K8 hK8 => ?_
    refine vc_region ?_
    refine vo_move_pv rfl rfl ?_
    refine vo_binI rfl rfl rfl rfl trivial ?_
    refine vo_nil ?_
    refine hK8 _ ?_
    refine vc_cond rfl (fun hc2 => ?_) (fun hc2 => ?_)
    · try simp only [decide_eq_true_eq, decide_eq_false_iff_not, beq_iff_eq, bne_iff_ne, beq_eq_false_iff_ne, bne_eq_false_iff_eq, Bool.not_eq_true, Bool.not_eq_false, Bool.not_eq_eq_eq_not, Bool.not_true, Bool.not_false, List.length_map, Int.not_lt, Int.not_le, ne_eq, Decidable.not_not] at hc2
      have hlt := findA_lt hc2
      refine vc_seq fun K9 hK9 => ?_
      refine vc_drawLD [16] [0, 1, 2, 3, 4, 5, 6, 7, 8, 9, 10, 11, 12, 13, 14, 15, 16] [0, 1, 2, 3, 15, 4, 5, 6, 7, 8, 9, 10, 11, 12, 13, 14, 16] (by kernel_rfl) (by kernel_rfl) (by kernel_rfl) (by kernel_rfl) ?_
      change VL [16] _ _ _ 17 _ _ _
      refine vl_light 0 [1, 4, 5, 6, 7, 8, 9, 10, 11, 12, 13, 14] rfl rfl rfl (by kernel_rfl) (by kernel_rfl) (by kernel_rfl) (by kernel_rfl) (by kernel_rfl) (wnt_none rfl) (lt_move_pv rfl) ?_
      refine vl_light 1 [0, 4, 5, 6, 7, 8, 9, 10, 11, 12, 13, 14] rfl rfl rfl (by kernel_rfl) (by kernel_rfl) (by kernel_rfl) (by kernel_rfl) (by kernel_rfl) (wnt_none rfl) (lt_move_pv rfl) ?_
      refine vl_light 2 [0, 1, 4, 5, 6, 7, 8, 9, 10, 11, 12, 13, 14] rfl rfl rfl (by kernel_rfl) (by kernel_rfl) (by kernel_rfl) (by kernel_rfl) (by kernel_rfl) (wnt_none rfl) (lt_index_pv (.int .i64 0) rfl rfl E36.und inf3 sz3 sd sd) ?_
      simp only [Int.toNat_natCast, Int.toNat_zero, getD_ints, getD_intss, getD_bools, getD_bytes, PV.cells, getD_ops, getD_pairs, getD_insts, getD_attrs, getD_attrss, getD_objs, getD_ordP]
      refine vl_light 3 [0, 1, 2, 4, 5, 6, 7, 8, 9, 10, 11, 12, 13, 14] rfl rfl rfl (by kernel_rfl) (by kernel_rfl) (by kernel_rfl) (by kernel_rfl) (by kernel_rfl) (wnt_none rfl) (lt_load_adr rfl Try.underlying3 rfl) ?_
      refine vl_light 4 [0, 1, 2, 3, 6, 7, 8, 9, 12, 15] rfl rfl rfl (by kernel_rfl) (by kernel_rfl) (by kernel_rfl) (by kernel_rfl) (by kernel_rfl) (wnt_none rfl) (lt_fieldAddr_ptr rfl Try.underlying65 rfl inf62 (by rw [sz62]; decide)) ?_
      try simp only [Nat.zero_add]
      refine vl_light 5 [0, 1, 2, 3, 4, 6, 7, 8, 9, 12, 15] rfl rfl rfl (by kernel_rfl) (by kernel_rfl) (by kernel_rfl) (by kernel_rfl) (by kernel_rfl) (wnt_none rfl) (lt_load_var rfl rfl Try.underlying62 rfl rfl) ?_
      refine vl_light 6 [0, 1, 2, 3, 4, 5, 7, 12, 15] rfl rfl rfl (by kernel_rfl) (by kernel_rfl) (by kernel_rfl) (by kernel_rfl) (by kernel_rfl) (wnt_none rfl) (lt_move_pv rfl) ?_
      refine vl_light 7 [0, 1, 2, 3, 4, 5, 6, 12, 15] rfl rfl rfl (by kernel_rfl) (by kernel_rfl) (by kernel_rfl) (by kernel_rfl) (by kernel_rfl) (wnt_none rfl) (lt_move_pv rfl) ?_
      refine vl_light 8 [0, 1, 2, 3, 4, 5, 6, 7, 12, 15] rfl rfl rfl (by kernel_rfl) (by kernel_rfl) (by kernel_rfl) (by kernel_rfl) (by kernel_rfl) (wnt_none rfl) (lt_index_pv (.int .i64 0) rfl rfl E36.und inf3 sz3 sd sd) ?_
      simp only [Int.toNat_natCast, Int.toNat_zero, getD_ints, getD_intss, getD_bools, getD_bytes, PV.cells, getD_ops, getD_pairs, getD_insts, getD_attrs, getD_attrss, getD_objs, getD_ordP]
      refine vl_light 9 [0, 1, 2, 3, 4, 5, 6, 7, 8, 12, 15] rfl rfl rfl (by kernel_rfl) (by kernel_rfl) (by kernel_rfl) (by kernel_rfl) (by kernel_rfl) (wnt_none rfl) (lt_load_adr rfl Try.underlying3 rfl) ?_
      refine vl_light 10 [0, 1, 2, 3, 4, 5, 6, 7, 8, 9, 12, 15] rfl rfl rfl (by kernel_rfl) (by kernel_rfl) (by kernel_rfl) (by kernel_rfl) (by kernel_rfl) (wnt_none rfl) (lt_index_pv (.sl none 3 []) rfl rfl E62.und inf84 sz84 sd sd) ?_
      simp only [Int.toNat_natCast, Int.toNat_zero, getD_ints, getD_intss, getD_bools, getD_bytes, PV.cells, getD_ops, getD_pairs, getD_insts, getD_attrs, getD_attrss, getD_objs, getD_ordP]
      refine vl_light 11 [0, 1, 2, 3, 4, 5, 6, 7, 8, 9, 10, 12, 15] rfl rfl rfl (by kernel_rfl) (by kernel_rfl) (by kernel_rfl) (by kernel_rfl) (by kernel_rfl) (wnt_none rfl) (lt_load_adr rfl Try.underlying84 rfl) ?_
      refine vl_light 12 [0, 1, 2, 3, 4, 5, 6, 7, 8, 9, 10, 11, 15] rfl rfl rfl (by kernel_rfl) (by kernel_rfl) (by kernel_rfl) (by kernel_rfl) (by kernel_rfl) (wnt_none rfl) (lt_move_pv rfl) ?_
      refine vl_light 13 [0, 1, 2, 3, 4, 5, 6, 7, 8, 9, 10, 11, 12, 15] rfl rfl rfl (by kernel_rfl) (by kernel_rfl) (by kernel_rfl) (by kernel_rfl) (by kernel_rfl) (wnt_none rfl) (lt_index_pv (.agg [(.int .i64 0), (.int .i64 0), (.int .i64 0)]) rfl rfl E84.und inf73 sz73 sd sd) ?_
      simp only [Int.toNat_natCast, Int.toNat_zero, getD_ints, getD_intss, getD_bools, getD_bytes, PV.cells, getD_ops, getD_pairs, getD_insts, getD_attrs, getD_attrss, getD_objs, getD_ordP]
      refine vl_light 14 [0, 1, 2, 3, 4, 5, 6, 7, 8, 9, 10, 11, 12, 13, 15] rfl rfl rfl (by kernel_rfl) (by kernel_rfl) (by kernel_rfl) (by kernel_rfl) (by kernel_rfl) (wnt_none rfl) (lt_load_adrS rfl Try.underlying73 rfl inf73 sz73 rfl) ?_
      refine vl_st (by (try simp only [St.put, PV.cells, PV.scal, List.drop_succ_cons, List.drop_zero, List.take_succ_cons, List.take_zero, List.map_cons, List.map_nil, Bool.or_true, Bool.or_false, Bool.false_or, Bool.true_or, opP, pairP, instP, heapP]); exact eq_refl _) ?_
      refine vl_light 15 [0, 1, 2, 3, 4, 5, 6, 7, 8, 9, 10, 11, 12, 13, 14] rfl rfl rfl (by kernel_rfl) (by kernel_rfl) (by kernel_rfl) (by kernel_rfl) (by kernel_rfl) (wnt_none rfl) (lt_assign_pv rfl) ?_
      refine vl_one 16 rfl (by kernel_rfl) rfl ?_
      refine vo_store_varS rfl rfl rfl inf73 sz73 rfl ?_
      refine vo_stM ?_
      refine vo_done ⟨rfl, ?_⟩
      refine vl_nil (by kernel_rfl) ?_
      refine hK9 _ ?_
      refine vc_ret ?_
      change retQ _ _ _ _ _
      refine retQ_sel [] (srows := []) (.inr rfl) hC rfl rfl rfl rfl rfl rfl rfl ?_
      rw [hf, fnd_drop (by omega), if_pos (by omega)]; exact ⟨rfl, rfl⟩
    · try simp only [decide_eq_true_eq, decide_eq_false_iff_not, beq_iff_eq, bne_iff_ne, beq_eq_false_iff_ne, bne_eq_false_iff_eq, Bool.not_eq_true, Bool.not_eq_false, Bool.not_eq_eq_eq_not, Bool.not_true, Bool.not_false, List.length_map, Int.not_lt, Int.not_le, ne_eq, Decidable.not_not] at hc2
      refine vc_skip ?_
      refine hK6 _ ?_
      refine vc_region ?_
      refine vo_move_pv rfl rfl ?_
      refine vo_binI rfl rfl rfl rfl sd ?_
      refine vo_assign_pv rfl rfl ?_
      refine vo_nil ?_
      change againE _ _ _ _ _ _ _ _ _ _
      refine againE_mk rfl rfl rfl rfl rfl rfl ⟨_, ?_, k + 1, rfl, ?_, ?_, rfl, rfl⟩
      · omega
      · omega
      · rw [hf, fnd_drop (by omega), if_neg (by omega)]
  · try simp only [decide_eq_true_eq, decide_eq_false_iff_not, beq_iff_eq, bne_iff_ne, beq_eq_false_iff_ne, bne_eq_false_iff_eq, Bool.not_eq_true, Bool.not_eq_false, Bool.not_eq_eq_eq_not, Bool.not_true, Bool.not_false, List.length_map, Int.not_lt, Int.not_le, ne_eq, Decidable.not_not] at hc1
    refine vc_exit ?_
    refine hK2 _ ?_
    refine vc_seq fun K10 hK10 => ?_
    refine vc_region ?_
    refine vo_build S73 rfl rfl rfl ?_
    refine vo_stM ?_
    refine vo_assign_pv rfl rfl ?_
    refine vo_store_varS rfl rfl rfl inf73 sz73 rfl ?_
    refine vo_stM ?_
    refine vo_nil ?_
    refine hK10 _ ?_
    refine vc_ret ?_
    change retQ _ _ _ _ _
    refine retQ_sel [] (srows := []) (.inr rfl) hC rfl rfl rfl rfl rfl rfl rfl ?_
    rw [hf, show k = order.length by omega, List.drop_length]; exact ⟨rfl, rfl⟩

theorem orderOf_satI {nl0 : Option Bool} {bases : List (List Int)} {c : Int} (hbases : bases.length < 1000000000) (hlbases : ∀ l ∈ bases, l.length < 1000000000) (hv : VB bases) (h0 : 0 ≤ c) (h1 : c < bases.length) : SatAt Try.prog 72 [.pv false (.sl nl0 1 (bases.map ints)), i64 c] [] (fun res rows => ∃ nl, res = [.ref 0] ∧ rows = [Row.own 3 1 nl true ((ordM bases c.toNat).map intP)]) := by
  obtain ⟨n, rfl⟩ := Int.eq_ofNat_of_zero_le h0
  exact orderOf_sat hbases hlbases hv n (by omega)
theorem findFromI_sat {w : WorldM} {nl1 : Option Bool} {order : List Int} {fr name : Int} (h0 : 0 ≤ fr) (hfr : fr ≤ order.length) (hA0 : w.attrs.length ≤ 2000000) (hA : ∀ l ∈ w.attrs, l.length ≤ 2000000) (ho : OrdIn w.attrs.length order) : SatAt Try.prog 98 [.pv false (worldP w), .pv false (.sl nl1 1 (order.map intP)), i64 fr, i64 name] [] (fun res rows => res = [i64 (fnd w.attrs name (order.drop fr.toNat)).1, .pv true (attrP (fnd w.attrs name (order.drop fr.toNat)).2)] ∧ rows = []) := by
  obtain ⟨n, rfl⟩ := Int.eq_ofNat_of_zero_le h0
  exact findFromK_sat (by omega) hA0 hA ho
theorem superM_at {w : WorldM} {x beh name : Int} (h : hasO w x) (h2 : 0 ≤ findM beh (ordM w.bases (w.objs.getD x.toNat ⟨0, []⟩).cls.toNat) 0) : superM w x beh name = bindO (fnd w.attrs name ((ordM w.bases (w.objs.getD x.toNat ⟨0, []⟩).cls.toNat).drop (findM beh (ordM w.bases (w.objs.getD x.toNat ⟨0, []⟩).cls.toNat) 0 + 1).toNat)) x (w.objs.getD x.toNat ⟨0, []⟩).cls := by
  unfold superM rstM; rw [if_pos h, if_pos h2]
theorem superM_no {w : WorldM} {x beh name : Int} (h : hasO w x) (h2 : ¬ 0 ≤ findM beh (ordM w.bases (w.objs.getD x.toNat ⟨0, []⟩).cls.toNat) 0) : superM w x beh name = none0 := by
  unfold superM rstM; rw [if_pos h, if_neg h2]; rfl


theorem specSuperAttr_sat {w : WorldM} {x : Int} {beh : Int} {name : Int}  (hw : SW w) : SatAt Try.prog 43 [.pv false (worldP w), i64 x, i64 beh, i64 name] [] (fun res rows => res = [.pv true (foundP (superM w x beh name))] ∧ rows = []) := by
  have hw0 := hw
  obtain ⟨⟨b1, b2⟩, ⟨a1, a2⟩, o1, o2⟩ := hw
  refine sat_entry_G (rs := [(8, some (60, 4))]) Try.func43 rfl rfl (Nat.le_of_ble_eq_true rfl) (Nat.le_of_ble_eq_true rfl) (resTs1 ⟨_, _, Try.underlying60, rfl, inf60, sz60⟩) fun C hC => ?_
  rw [Try.ntmps43]
  replace hC : C.nb = 0 := hC
  refine vc_seq fun K1 hK1 => ?_
  refine vc_region ?_
  refine vo_box rfl rfl ?_
  refine vo_stM ?_
  refine vo_alloc Z60 rfl ?_
  refine vo_stM ?_
  refine vo_nil ?_
  refine hK1 _ ?_
  refine vc_seq fun K2 hK2 => ?_
  refine vc_region ?_
  refine vo_build S60 rfl rfl rfl ?_
  refine vo_stM ?_
  refine vo_alloc Z60 rfl ?_
  refine vo_stM ?_
  refine vo_store_varS rfl rfl rfl inf60 sz60 rfl ?_
  refine vo_stM ?_
  refine vo_nil ?_
  refine hK2 _ ?_
  refine vc_seq fun K3 hK3 => ?_
  refine vc_seq fun K4 hK4 => ?_
  refine vc_region ?_
  refine vo_load_varS rfl rfl rfl Try.underlying65 rfl inf65 sz65 rfl rfl ?_
  refine vo_move_pv rfl rfl ?_
  refine vo_call0 Try.func84 rfl rfl rfl rfl (validObject_sat hw0) ?_
  rintro _ _ ⟨rfl, rfl⟩
  refine ⟨rfl, rfl, .inl rfl, ?_⟩
  refine vo_stM ?_
  refine vo_not rfl rfl ?_
  refine vo_nil ?_
  refine hK4 _ ?_
  refine vc_cond rfl (fun hc1 => ?_) (fun hc1 => ?_)
  · try simp only [decide_eq_true_eq, decide_eq_false_iff_not, beq_iff_eq, bne_iff_ne, beq_eq_false_iff_ne, bne_eq_false_iff_eq, Bool.not_eq_true, Bool.not_eq_false, Bool.not_eq_eq_eq_not, Bool.not_true, Bool.not_false, List.length_map, Int.not_lt, Int.not_le, ne_eq, Decidable.not_not] at hc1
    refine vc_seq fun K5 hK5 => ?_
    refine vc_region ?_
    refine vo_load_varS rfl rfl rfl Try.underlying60 rfl inf60 sz60 rfl rfl ?_
    refine vo_store_varS rfl rfl rfl inf60 sz60 rfl ?_
    refine vo_stM ?_
    refine vo_nil ?_
    refine hK5 _ ?_
    refine vc_ret ?_
    change retQ _ _ _ _ _
    refine retQ_sel [] (srows := []) (.inr rfl) hC rfl rfl rfl rfl rfl rfl rfl ?_
    first
      | (refine ⟨fr_eq (?_ : FoundM.mk _ _ _ _ = _), rfl⟩; unfold superM; rw [if_neg (by assumption)]; rfl)
      | (refine ⟨fr_eq (?_ : FoundM.mk _ _ _ _ = _), rfl⟩; rw [superM_no hc1 (by omega)]; rfl)
      | (refine ⟨fr_eq (?_ : FoundM.mk _ _ _ _ = _), rfl⟩; rw [superM_at hc1 (by omega)]; unfold bindO; rw [if_neg (by omega)]; rfl)
      | (refine ⟨fr_eq (?_ : bindM _ _ _ _ = _), rfl⟩; rw [superM_at hc1 (by omega)]; unfold bindO; rw [if_pos (by omega)])
  · try simp only [decide_eq_true_eq, decide_eq_false_iff_not, beq_iff_eq, bne_iff_ne, beq_eq_false_iff_ne, bne_eq_false_iff_eq, Bool.not_eq_true, Bool.not_eq_false, Bool.not_eq_eq_eq_not, Bool.not_true, Bool.not_false, List.length_map, Int.not_lt, Int.not_le, ne_eq, Decidable.not_not] at hc1
    have hx2 := hc1.2
    have hcl := hasO_cls hc1
    have hxl : x.toNat < w.objs.length := by have := hc1.2; omega
    have hof := getD_all o2 ⟨0, []⟩ SO_zero x.toNat
    unfold SO at hof
    have hnl := nms_lt (n := name) (l := (w.objs.getD x.toNat ⟨0, []⟩).pairs)
    have hoi := ordIn_of hc1.1 hcl.1 hcl.2
    have hol := ordM_len hc1.1.1.1 (show (w.objs.getD x.toNat ⟨0, []⟩).cls.toNat < w.bases.length by omega)
    refine vc_skip ?_
    refine hK3 _ ?_
    refine vc_seq fun K6 hK6 => ?_
    refine vc_draw (by kernel_rfl) ?_
    change VD _ _ _ 10 _ _ _
    refine vd_light 0 rfl rfl rfl (by kernel_rfl) (by kernel_rfl) (by kernel_rfl) (wnt_none rfl) (lt_fieldAddr_ptr rfl Try.underlying65 rfl inf22 (by rw [sz22]; decide)) ?_
    try simp only [Nat.zero_add]
    refine vd_light 1 rfl rfl rfl (by kernel_rfl) (by kernel_rfl) (by kernel_rfl) (wnt_none rfl) (lt_load_var rfl rfl Try.underlying22 rfl rfl) ?_
    refine vd_light 2 rfl rfl rfl (by kernel_rfl) (by kernel_rfl) (by kernel_rfl) (wnt_none rfl) (lt_fieldAddr_ptr rfl Try.underlying65 rfl inf63 (by rw [sz63]; decide)) ?_
    try simp only [Nat.zero_add]
    refine vd_light 3 rfl rfl rfl (by kernel_rfl) (by kernel_rfl) (by kernel_rfl) (wnt_none rfl) (lt_load_var rfl rfl Try.underlying63 rfl rfl) ?_
    refine vd_light 4 rfl rfl rfl (by kernel_rfl) (by kernel_rfl) (by kernel_rfl) (wnt_none rfl) (lt_move_pv rfl) ?_
    refine vd_light 5 rfl rfl rfl (by kernel_rfl) (by kernel_rfl) (by kernel_rfl) (wnt_none rfl) (lt_index_pv (.agg [(.int .i64 0), (.sl none 2 [])]) rfl rfl E63.und inf118 sz118 sd sd) ?_
    simp only [Int.toNat_natCast, Int.toNat_zero, getD_ints, getD_intss, getD_bools, getD_bytes, PV.cells, getD_ops, getD_pairs, getD_insts, getD_attrs, getD_attrss, getD_objs, getD_ordP]
    refine vd_light 6 rfl rfl rfl (by kernel_rfl) (by kernel_rfl) (by kernel_rfl) (wnt_none rfl) (lt_fieldAddr_adr rfl Try.underlying118 rfl inf3 (by rw [sz3]; decide)) ?_
    refine vd_light 7 rfl rfl rfl (by kernel_rfl) (by kernel_rfl) (by kernel_rfl) (wnt_none rfl) (lt_load_adr rfl Try.underlying3 rfl) ?_
    refine vd_callR 8 [] rfl rfl (by kernel_rfl) (wnt_none rfl) Try.func72 rfl rfl rfl rfl (orderOf_satI (by omega) (fun l hl => by have := b2 l hl; omega) hc1.1.1.1 hcl.1 (by omega)) rfl rfl rfl ?_
    rintro _ _ ⟨nlo, rfl, rfl⟩
    refine ⟨Nat.le_of_ble_eq_true rfl, ⟨rfl, rfl, rfl, rfl⟩, .inl rfl, ?_⟩
    refine vd_stM ?_
    refine vd_light 9 rfl rfl rfl (by kernel_rfl) (by kernel_rfl) (by kernel_rfl) (wnt_none rfl) (lt_assign_ref rfl) ?_
    refine vd_nil (by kernel_rfl) ?_
    refine hK6 _ ?_
    refine vc_seq fun K7 hK7 => ?_
    refine vc_region ?_
    refine vo_move_ref rfl rfl ?_
    refine vo_move_pv rfl rfl ?_
    refine vo_call0 Try.func73 rfl rfl rfl rfl (placeIn_sat (list := (ordM w.bases (w.objs.getD x.toNat ⟨0, []⟩).cls.toNat)) (by omega)) ?_
    rintro _ _ ⟨rfl, rfl⟩
    refine ⟨rfl, rfl, .inr rfl, ?_⟩
    refine vo_stM ?_
    refine vo_assign_pv rfl rfl ?_
    refine vo_nil ?_
    refine hK7 _ ?_
    refine vc_seq fun K8 hK8 => ?_
    refine vc_seq fun K9 hK9 => ?_
    refine vc_region ?_
    refine vo_move_pv rfl rfl ?_
    refine vo_binI rfl rfl rfl rfl trivial ?_
    refine vo_nil ?_
    refine hK9 _ ?_
    refine vc_cond rfl (fun hc2 => ?_) (fun hc2 => ?_)
    · try simp only [decide_eq_true_eq, decide_eq_false_iff_not, beq_iff_eq, bne_iff_ne, beq_eq_false_iff_ne, bne_eq_false_iff_eq, Bool.not_eq_true, Bool.not_eq_false, Bool.not_eq_eq_eq_not, Bool.not_true, Bool.not_false, List.length_map, Int.not_lt, Int.not_le, ne_eq, Decidable.not_not] at hc2
      refine vc_seq fun K10 hK10 => ?_
      refine vc_region ?_
      refine vo_load_varS rfl rfl rfl Try.underlying60 rfl inf60 sz60 rfl rfl ?_
      refine vo_store_varS rfl rfl rfl inf60 sz60 rfl ?_
      refine vo_stM ?_
      refine vo_nil ?_
      refine hK10 _ ?_
      refine vc_ret ?_
      change retQ _ _ _ _ _
      refine retQ_sel [] (srows := []) (.inr rfl) hC rfl rfl rfl rfl rfl rfl rfl ?_
      first
        | (refine ⟨fr_eq (?_ : FoundM.mk _ _ _ _ = _), rfl⟩; unfold superM; rw [if_neg (by assumption)]; rfl)
        | (refine ⟨fr_eq (?_ : FoundM.mk _ _ _ _ = _), rfl⟩; rw [superM_no hc1 (by omega)]; rfl)
        | (refine ⟨fr_eq (?_ : FoundM.mk _ _ _ _ = _), rfl⟩; rw [superM_at hc1 (by omega)]; unfold bindO; rw [if_neg (by omega)]; rfl)
        | (refine ⟨fr_eq (?_ : bindM _ _ _ _ = _), rfl⟩; rw [superM_at hc1 (by omega)]; unfold bindO; rw [if_pos (by omega)])
    · try simp only [decide_eq_true_eq, decide_eq_false_iff_not, beq_iff_eq, bne_iff_ne, beq_eq_false_iff_ne, bne_eq_false_iff_eq, Bool.not_eq_true, Bool.not_eq_false, Bool.not_eq_eq_eq_not, Bool.not_true, Bool.not_false, List.length_map, Int.not_lt, Int.not_le, ne_eq, Decidable.not_not] at hc2
      have hlt := findM_ltL (x := beh) (o := (ordM w.bases (w.objs.getD x.toNat ⟨0, []⟩).cls.toNat)) (by omega)
      refine vc_skip ?_
      refine hK8 _ ?_
      refine vc_seq fun K11 hK11 => ?_
      refine vc_region ?_
      refine vo_load_varS rfl rfl rfl Try.underlying65 rfl inf65 sz65 rfl rfl ?_
      refine vo_move_ref rfl rfl ?_
      refine vo_move_pv rfl rfl ?_
      refine vo_binI rfl rfl rfl rfl sd ?_
      refine vo_move_pv rfl rfl ?_
      refine vo_expose 3 (by omega) rfl ?_
      refine vo_stM ?_
      refine vo_weaken 37 rfl ?_
      refine vo_stM ?_
      refine vo_call0 Try.func98 rfl rfl rfl rfl (findFromI_sat (order := (ordM w.bases (w.objs.getD x.toNat ⟨0, []⟩).cls.toNat)) (by omega) (by omega) a1 a2 hoi) ?_
      rintro _ _ ⟨rfl, rfl⟩
      refine ⟨rfl, rfl, .inl rfl, ?_⟩
      refine vo_stM ?_
      refine vo_move rfl ?_
      refine vo_stM ?_
      refine vo_extract rfl rfl rfl ?_
      refine vo_extract rfl rfl rfl ?_
      refine vo_alloc Z73 rfl ?_
      refine vo_stM ?_
      refine vo_assign_pv rfl rfl ?_
      refine vo_store_varS rfl rfl rfl inf73 sz73 rfl ?_
      refine vo_stM ?_
      refine vo_nil ?_
      refine hK11 _ ?_
      refine vc_seq fun K12 hK12 => ?_
      refine vc_seq fun K13 hK13 => ?_
      refine vc_region ?_
      refine vo_move_pv rfl rfl ?_
      refine vo_binI rfl rfl rfl rfl trivial ?_
      refine vo_nil ?_
      refine hK13 _ ?_
      refine vc_cond rfl (fun hc3 => ?_) (fun hc3 => ?_)
      · try simp only [decide_eq_true_eq, decide_eq_false_iff_not, beq_iff_eq, bne_iff_ne, beq_eq_false_iff_ne, bne_eq_false_iff_eq, Bool.not_eq_true, Bool.not_eq_false, Bool.not_eq_eq_eq_not, Bool.not_true, Bool.not_false, List.length_map, Int.not_lt, Int.not_le, ne_eq, Decidable.not_not] at hc3
        refine vc_seq fun K14 hK14 => ?_
        refine vc_region ?_
        refine vo_load_varS rfl rfl rfl Try.underlying60 rfl inf60 sz60 rfl rfl ?_
        refine vo_store_varS rfl rfl rfl inf60 sz60 rfl ?_
        refine vo_stM ?_
        refine vo_nil ?_
        refine hK14 _ ?_
        refine vc_ret ?_
        change retQ _ _ _ _ _
        refine retQ_sel [] (srows := []) (.inr rfl) hC rfl rfl rfl rfl rfl rfl rfl ?_
        first
          | (refine ⟨fr_eq (?_ : FoundM.mk _ _ _ _ = _), rfl⟩; unfold superM; rw [if_neg (by assumption)]; rfl)
          | (refine ⟨fr_eq (?_ : FoundM.mk _ _ _ _ = _), rfl⟩; rw [superM_no hc1 (by omega)]; rfl)
          | (refine ⟨fr_eq (?_ : FoundM.mk _ _ _ _ = _), rfl⟩; rw [superM_at hc1 (by omega)]; unfold bindO; rw [if_neg (by omega)]; rfl)
          | (refine ⟨fr_eq (?_ : bindM _ _ _ _ = _), rfl⟩; rw [superM_at hc1 (by omega)]; unfold bindO; rw [if_pos (by omega)])
      · try simp only [decide_eq_true_eq, decide_eq_false_iff_not, beq_iff_eq, bne_iff_ne, beq_eq_false_iff_ne, bne_eq_false_iff_eq, Bool.not_eq_true, Bool.not_eq_false, Bool.not_eq_eq_eq_not, Bool.not_true, Bool.not_false, List.length_map, Int.not_lt, Int.not_le, ne_eq, Decidable.not_not] at hc3
        refine vc_skip ?_
        refine hK12 _ ?_
        refine vc_seq fun K15 hK15 => ?_
        refine vc_drawL [10] (by kernel_rfl) ?_
        change VL [10] _ _ _ 11 _ _ _
        refine vl_light 0 [1, 2, 3, 4, 5, 6, 7, 8] rfl rfl rfl (by kernel_rfl) (by kernel_rfl) (by kernel_rfl) (by kernel_rfl) (by kernel_rfl) (wnt_none rfl) (lt_move_pv rfl) ?_
        refine vl_light 1 [0, 2, 3, 4, 5, 6, 7, 8] rfl rfl rfl (by kernel_rfl) (by kernel_rfl) (by kernel_rfl) (by kernel_rfl) (by kernel_rfl) (wnt_none rfl) (lt_load_varS rfl rfl Try.underlying73 rfl inf73 sz73 rfl rfl) ?_
        refine vl_light 2 [0, 1, 3, 4, 5, 6, 7, 8] rfl rfl rfl (by kernel_rfl) (by kernel_rfl) (by kernel_rfl) (by kernel_rfl) (by kernel_rfl) (wnt_none rfl) (lt_move_pv rfl) ?_
        refine vl_light 3 [0, 1, 2, 5] rfl rfl rfl (by kernel_rfl) (by kernel_rfl) (by kernel_rfl) (by kernel_rfl) (by kernel_rfl) (wnt_none rfl) (lt_fieldAddr_ptr rfl Try.underlying65 rfl inf63 (by rw [sz63]; decide)) ?_
        try simp only [Nat.zero_add]
        refine vl_light 4 [0, 1, 2, 3, 5] rfl rfl rfl (by kernel_rfl) (by kernel_rfl) (by kernel_rfl) (by kernel_rfl) (by kernel_rfl) (wnt_none rfl) (lt_load_var rfl rfl Try.underlying63 rfl rfl) ?_
        refine vl_light 5 [0, 1, 2, 3, 4] rfl rfl rfl (by kernel_rfl) (by kernel_rfl) (by kernel_rfl) (by kernel_rfl) (by kernel_rfl) (wnt_none rfl) (lt_move_pv rfl) ?_
        refine vl_light 6 [0, 1, 2, 3, 4, 5] rfl rfl rfl (by kernel_rfl) (by kernel_rfl) (by kernel_rfl) (by kernel_rfl) (by kernel_rfl) (wnt_none rfl) (lt_index_pv (.agg [(.int .i64 0), (.sl none 2 [])]) rfl rfl E63.und inf118 sz118 sd sd) ?_
        simp only [Int.toNat_natCast, Int.toNat_zero, getD_ints, getD_intss, getD_bools, getD_bytes, PV.cells, getD_ops, getD_pairs, getD_insts, getD_attrs, getD_attrss, getD_objs, getD_ordP]
        refine vl_light 7 [0, 1, 2, 3, 4, 5, 6] rfl rfl rfl (by kernel_rfl) (by kernel_rfl) (by kernel_rfl) (by kernel_rfl) (by kernel_rfl) (wnt_none rfl) (lt_fieldAddr_adr rfl Try.underlying118 rfl inf3 (by rw [sz3]; decide)) ?_
        refine vl_light 8 [0, 1, 2, 3, 4, 5, 6, 7] rfl rfl rfl (by kernel_rfl) (by kernel_rfl) (by kernel_rfl) (by kernel_rfl) (by kernel_rfl) (wnt_none rfl) (lt_load_adr rfl Try.underlying3 rfl) ?_
        refine vl_callR 9 [] rfl rfl (by kernel_rfl) (wnt_none rfl) Try.func97 rfl rfl rfl rfl bind_sat rfl rfl rfl ?_
        rintro _ _ ⟨rfl, rfl⟩
        refine ⟨Nat.le_of_ble_eq_true rfl, ⟨rfl, rfl, rfl, rfl⟩, .inl rfl, ?_⟩
        refine vl_stM ?_
        refine vl_stM ?_
        refine vl_one 10 rfl (by kernel_rfl) rfl ?_
        refine vo_store_varS rfl rfl rfl inf60 sz60 rfl ?_
        refine vo_stM ?_
        refine vo_done ⟨rfl, ?_⟩
        refine vl_nil (by kernel_rfl) ?_
        refine hK15 _ ?_
        refine vc_ret ?_
        change retQ _ _ _ _ _
        refine retQ_sel [] (srows := []) (.inr rfl) hC rfl rfl rfl rfl rfl rfl rfl ?_
        first
          | (refine ⟨fr_eq (?_ : FoundM.mk _ _ _ _ = _), rfl⟩; unfold superM; rw [if_neg (by assumption)]; rfl)
          | (refine ⟨fr_eq (?_ : FoundM.mk _ _ _ _ = _), rfl⟩; rw [superM_no hc1 (by omega)]; rfl)
          | (refine ⟨fr_eq (?_ : FoundM.mk _ _ _ _ = _), rfl⟩; rw [superM_at hc1 (by omega)]; unfold bindO; rw [if_neg (by omega)]; rfl)
          | (refine ⟨fr_eq (?_ : bindM _ _ _ _ = _), rfl⟩; rw [superM_at hc1 (by omega)]; unfold bindO; rw [if_pos (by omega)])


theorem FnExactSuperAttr_sat {a : WorldM} {x : Int} {beh : Int} {name : Int}  (ha : GW63 a) : SatAt Try.prog 9 [.pv false (worldP a), i64 x, i64 beh, i64 name] [] (fun res rows => res = [bo true] ∧ rows = []) := by
  refine sat_entry_G (rs := [(8, none)]) Try.func9 rfl rfl (Nat.le_of_ble_eq_true rfl) (Nat.le_of_ble_eq_true rfl) (resTs1 trivial) fun C hC => ?_
  rw [Try.ntmps9]
  replace hC : C.nb = 0 := hC
  refine vc_seq fun K1 hK1 => ?_
  refine vc_region ?_
  refine vo_box rfl rfl ?_
  refine vo_stM ?_
  refine vo_assign_pv rfl rfl ?_
  refine vo_nil ?_
  refine hK1 _ ?_
  refine vc_seq fun K2 hK2 => ?_
  refine vc_region ?_
  refine vo_assign_pv rfl rfl ?_
  refine vo_nil ?_
  refine hK2 _ ?_
  refine vc_seq fun K3 hK3 => ?_
  refine vc_region ?_
  refine vo_load_varS rfl rfl rfl Try.underlying57 rfl inf57 sz57 rfl rfl ?_
  refine vo_move_pv rfl rfl ?_
  refine vo_call0 Try.func35 rfl rfl rfl rfl (szWorld_sat ha (by omega) (by omega)) ?_
  rintro _ _ ⟨v, hv, rfl, rfl⟩
  refine ⟨rfl, rfl, .inl rfl, ?_⟩
  refine vo_stM ?_
  refine vo_assign_pv rfl rfl ?_
  refine vo_nil ?_
  refine hK3 _ ?_
  refine vc_seq fun K4 hK4 => ?_
  refine vc_seq fun K5 hK5 => ?_
  refine vc_region ?_
  refine vo_move_pv rfl rfl ?_
  refine vo_binI rfl rfl rfl rfl trivial ?_
  refine vo_nil ?_
  refine hK5 _ ?_
  refine vc_cond rfl (fun hc1 => ?_) (fun hc1 => ?_)
  · try simp only [decide_eq_true_eq, decide_eq_false_iff_not, beq_iff_eq, bne_iff_ne, beq_eq_false_iff_ne, bne_eq_false_iff_eq, Bool.not_eq_true, Bool.not_eq_false, Bool.not_eq_eq_eq_not, Bool.not_true, Bool.not_false, List.length_map, Int.not_lt, Int.not_le, ne_eq, Decidable.not_not] at hc1
    refine vc_seq fun K6 hK6 => ?_
    refine vc_region ?_
    refine vo_assign_pv rfl rfl ?_
    refine vo_nil ?_
    refine hK6 _ ?_
    refine vc_ret ?_
    change retQ _ _ _ _ _
    refine retQ_sel [] (srows := []) (.inr rfl) hC rfl rfl rfl rfl rfl rfl rfl ?_
    exact ⟨rfl, rfl⟩
  · try simp only [decide_eq_true_eq, decide_eq_false_iff_not, beq_iff_eq, bne_iff_ne, beq_eq_false_iff_ne, bne_eq_false_iff_eq, Bool.not_eq_true, Bool.not_eq_false, Bool.not_eq_eq_eq_not, Bool.not_true, Bool.not_false, List.length_map, Int.not_lt, Int.not_le, ne_eq, Decidable.not_not] at hc1
    rcases hv with hv | hv
    · omega
    have hs := hv.2.2
    refine vc_skip ?_
    refine hK4 _ ?_
    refine vc_seq fun K7 hK7 => ?_
    refine vc_region ?_
    refine vo_load_varS rfl rfl rfl Try.underlying57 rfl inf57 sz57 rfl rfl ?_
    refine vo_call0 Try.func37 rfl rfl rfl rfl (toWorld_sat hs) ?_
    rintro _ _ ⟨rfl, rfl⟩
    refine ⟨rfl, rfl, .inl rfl, ?_⟩
    refine vo_stM ?_
    refine vo_move_pv rfl rfl ?_
    refine vo_move_pv rfl rfl ?_
    refine vo_move_pv rfl rfl ?_
    refine vo_call0 Try.func43 rfl rfl rfl rfl (specSuperAttr_sat hs) ?_
    rintro _ _ ⟨rfl, rfl⟩
    refine ⟨rfl, rfl, .inl rfl, ?_⟩
    refine vo_stM ?_
    refine vo_alloc Z60 rfl ?_
    refine vo_stM ?_
    refine vo_store_varS rfl rfl rfl inf60 sz60 rfl ?_
    refine vo_stM ?_
    refine vo_nil ?_
    refine hK7 _ ?_
    refine vc_seq fun K8 hK8 => ?_
    refine vc_region ?_
    refine vo_load_varS rfl rfl rfl Try.underlying57 rfl inf57 sz57 rfl rfl ?_
    refine vo_call0 Try.func37 rfl rfl rfl rfl (toWorld_sat hs) ?_
    rintro _ _ ⟨rfl, rfl⟩
    refine ⟨rfl, rfl, .inl rfl, ?_⟩
    refine vo_stM ?_
    refine vo_alloc Z65 rfl ?_
    refine vo_stM ?_
    refine vo_store_varS rfl rfl rfl inf65 sz65 rfl ?_
    refine vo_stM ?_
    refine vo_nil ?_
    refine hK8 _ ?_
    refine vc_seq fun K9 hK9 => ?_
    refine vc_region ?_
    refine vo_load_varS rfl rfl rfl Try.underlying65 rfl inf65 sz65 rfl rfl ?_
    refine vo_move_pv rfl rfl ?_
    refine vo_move_pv rfl rfl ?_
    refine vo_move_pv rfl rfl ?_
    refine vo_call0 Try.func44 rfl rfl rfl rfl (implSuperAttr_sat hs) ?_
    rintro _ _ ⟨rfl, rfl⟩
    refine ⟨rfl, rfl, .inl rfl, ?_⟩
    refine vo_stM ?_
    refine vo_alloc Z60 rfl ?_
    refine vo_stM ?_
    refine vo_store_varS rfl rfl rfl inf60 sz60 rfl ?_
    refine vo_stM ?_
    refine vo_nil ?_
    refine hK9 _ ?_
    refine vc_seq fun K10 hK10 => ?_
    refine vc_seq fun K11 hK11 => ?_
    refine vc_region ?_
    refine vo_load_varS rfl rfl rfl Try.underlying60 rfl inf60 sz60 rfl rfl ?_
    refine vo_load_varS rfl rfl rfl Try.underlying60 rfl inf60 sz60 rfl rfl ?_
    refine vo_call0 Try.func39 rfl rfl rfl rfl eqFound_sat ?_
    rintro _ _ ⟨rfl, rfl⟩
    refine ⟨rfl, rfl, .inl rfl, ?_⟩
    refine vo_stM ?_
    refine vo_not rfl rfl ?_
    refine vo_nil ?_
    refine hK11 _ ?_
    refine vc_cond rfl (fun hc2 => ?_) (fun hc2 => ?_)
    · try simp only [decide_eq_true_eq, decide_eq_false_iff_not, beq_iff_eq, bne_iff_ne, beq_eq_false_iff_ne, bne_eq_false_iff_eq, Bool.not_eq_true, Bool.not_eq_false, Bool.not_eq_eq_eq_not, Bool.not_true, Bool.not_false, List.length_map, Int.not_lt, Int.not_le, ne_eq, Decidable.not_not] at hc2
      refine vc_seq fun K12 hK12 => ?_
      refine vc_region ?_
      refine vo_assign_pv rfl rfl ?_
      refine vo_nil ?_
      refine hK12 _ ?_
      refine vc_ret ?_
      change retQ _ _ _ _ _
      refine retQ_sel [] (srows := []) (.inr rfl) hC rfl rfl rfl rfl rfl rfl rfl ?_
      first | exact ⟨rfl, rfl⟩ | (exfalso; simp_all; done)
    · try simp only [decide_eq_true_eq, decide_eq_false_iff_not, beq_iff_eq, bne_iff_ne, beq_eq_false_iff_ne, bne_eq_false_iff_eq, Bool.not_eq_true, Bool.not_eq_false, Bool.not_eq_eq_eq_not, Bool.not_true, Bool.not_false, List.length_map, Int.not_lt, Int.not_le, ne_eq, Decidable.not_not] at hc2
      refine vc_skip ?_
      refine hK10 _ ?_
      refine vc_seq fun K13 hK13 => ?_
      refine vc_seq fun K14 hK14 => ?_
      refine vc_draw (by kernel_rfl) ?_
      change VD _ _ _ 5 _ _ _
      refine vd_light 0 rfl rfl rfl (by kernel_rfl) (by kernel_rfl) (by kernel_rfl) (wnt_none rfl) (lt_load_varS rfl rfl Try.underlying65 rfl inf65 sz65 rfl rfl) ?_
      refine vd_light 1 rfl rfl rfl (by kernel_rfl) (by kernel_rfl) (by kernel_rfl) (wnt_none rfl) (lt_load_varS rfl rfl Try.underlying57 rfl inf57 sz57 rfl rfl) ?_
      refine vd_call 2 rfl (by kernel_rfl) (wnt_none rfl) Try.func37 rfl rfl rfl rfl (toWorld_sat hs) ?_
      rintro _ _ ⟨rfl, rfl⟩
      refine ⟨rfl, rfl, .inl rfl, ?_⟩
      refine vd_stM ?_
      refine vd_call 3 rfl (by kernel_rfl) (wnt_none rfl) Try.func40 rfl rfl rfl rfl (eqWorld_sat hs hs) ?_
      rintro _ _ ⟨rfl, rfl⟩
      refine ⟨rfl, rfl, .inl rfl, ?_⟩
      refine vd_stM ?_
      refine vd_light 4 rfl rfl rfl (by kernel_rfl) (by kernel_rfl) (by kernel_rfl) (wnt_none rfl) (lt_not rfl) ?_
      refine vd_nil (by kernel_rfl) ?_
      refine hK14 _ ?_
      refine vc_cond rfl (fun hc3 => ?_) (fun hc3 => ?_)
      · try simp only [decide_eq_true_eq, decide_eq_false_iff_not, beq_iff_eq, bne_iff_ne, beq_eq_false_iff_ne, bne_eq_false_iff_eq, Bool.not_eq_true, Bool.not_eq_false, Bool.not_eq_eq_eq_not, Bool.not_true, Bool.not_false, List.length_map, Int.not_lt, Int.not_le, ne_eq, Decidable.not_not] at hc3
        refine vc_seq fun K15 hK15 => ?_
        refine vc_region ?_
        refine vo_assign_pv rfl rfl ?_
        refine vo_nil ?_
        refine hK15 _ ?_
        refine vc_ret ?_
        change retQ _ _ _ _ _
        refine retQ_sel [] (srows := []) (.inr rfl) hC rfl rfl rfl rfl rfl rfl rfl ?_
        first | exact ⟨rfl, rfl⟩ | (exfalso; simp_all; done)
      · try simp only [decide_eq_true_eq, decide_eq_false_iff_not, beq_iff_eq, bne_iff_ne, beq_eq_false_iff_ne, bne_eq_false_iff_eq, Bool.not_eq_true, Bool.not_eq_false, Bool.not_eq_eq_eq_not, Bool.not_true, Bool.not_false, List.length_map, Int.not_lt, Int.not_le, ne_eq, Decidable.not_not] at hc3
        refine vc_skip ?_
        refine hK13 _ ?_
        refine vc_seq fun K16 hK16 => ?_
        refine vc_region ?_
        refine vo_assign_pv rfl rfl ?_
        refine vo_nil ?_
        refine hK16 _ ?_
        refine vc_ret ?_
        change retQ _ _ _ _ _
        refine retQ_sel [] (srows := []) (.inr rfl) hC rfl rfl rfl rfl rfl rfl rfl ?_
        first | exact ⟨rfl, rfl⟩ | (exfalso; simp_all; done)

end Go.Vl
