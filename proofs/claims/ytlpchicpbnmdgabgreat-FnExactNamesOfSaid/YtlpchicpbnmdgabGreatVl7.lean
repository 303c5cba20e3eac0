/- Part 7 of the texts that the proof of FnExactNamesOf is built on. -/
import Derived.Test.YtlpchicpbnmdgabGreatVl6
namespace Go.Vl
set_option linter.unusedVariables false
set_option linter.unusedSimpArgs false
open Go.Proofs

structure FoundM where
  how : Int
  owner : Int
  value : Int
  self : Int
  deriving Inhabited, DecidableEq
abbrev foundP (f : FoundM) : PV := .agg [.int .i64 f.how, .int .i64 f.owner, .int .i64 f.value, .int .i64 f.self]
def none0 : FoundM := ⟨0, -1, -1, -1⟩
abbrev memP (o : Int) (a : AttrM) : PV := .agg [.int .i64 o, .int .i64 a.name, .int .i64 a.kind, .int .i64 a.value]
def bindM (ow : Int) (a : AttrM) (obj c : Int) : FoundM :=
  if a.kind = 1 then ⟨if 0 ≤ obj then 3 else 2, ow, a.value, obj⟩
  else if a.kind = 4 then ⟨3, ow, a.value, c⟩
  else if (a.kind = 2 ∨ a.kind = 3) ∧ 0 ≤ obj then ⟨4, ow, a.value, obj⟩
  else ⟨2, ow, a.value, -1⟩
def getR (ow : Int) (a : AttrM) (z pv x cls : Int) : FoundM :=
  if 0 ≤ ow ∧ (a.kind = 2 ∨ a.kind = 3) then bindM ow a x cls else if 0 ≤ z then ⟨1, -1, pv, x⟩ else if 0 ≤ ow then bindM ow a x cls else none0
def getM (w : WorldM) (x : Nat) (name : Int) : FoundM :=
  getR (fnd w.attrs name (ordM w.bases (w.objs.getD x ⟨0, []⟩).cls.toNat)).1 (fnd w.attrs name (ordM w.bases (w.objs.getD x ⟨0, []⟩).cls.toNat)).2 (findM name (nms (w.objs.getD x ⟨0, []⟩).pairs) 0)
    ((w.objs.getD x ⟨0, []⟩).pairs.getD (findM name (nms (w.objs.getD x ⟨0, []⟩).pairs) 0).toNat (0, 0)).2 x (w.objs.getD x ⟨0, []⟩).cls
def hasO (w : WorldM) (x : Int) : Prop := VWorld w ∧ 0 ≤ x ∧ x ≤ (w.objs.length : Int) - 1
instance (w : WorldM) (x : Int) : Decidable (hasO w x) := by unfold hasO; exact inferInstance
def getAttrM (w : WorldM) (x name : Int) : FoundM := if hasO w x then getM w x.toNat name else none0
def getClsM (w : WorldM) (c name : Int) : FoundM := if 0 ≤ (fndM w c name).1 then bindM (fndM w c name).1 (fndM w c name).2 (-1) c else none0
def bindO (r : Int × AttrM) (x c : Int) : FoundM := if 0 ≤ r.1 then bindM r.1 r.2 x c else none0
def superM (w : WorldM) (x beh name : Int) : FoundM := if hasO w x then bindO (fnd w.attrs name (rstM (ordM w.bases (w.objs.getD x.toNat ⟨0, []⟩).cls.toNat) beh)) x (w.objs.getD x.toNat ⟨0, []⟩).cls else none0
theorem hasO_cls {w : WorldM} {x : Int} (h : hasO w x) : 0 ≤ (w.objs.getD x.toNat ⟨0, []⟩).cls ∧ (w.objs.getD x.toNat ⟨0, []⟩).cls ≤ (w.bases.length : Int) - 1 := by
  have h2 := h.1.2.2.2.2 _ (getD_mem (show x.toNat < w.objs.length by have := h.2; omega) ⟨0, []⟩)
  unfold okObj at h2; exact h2.1
theorem fndM_obj {w : WorldM} {x name : Int} (h : hasO w x) : fndM w (w.objs.getD x.toNat ⟨0, []⟩).cls name = fnd w.attrs name (ordM w.bases (w.objs.getD x.toNat ⟨0, []⟩).cls.toNat) := by
  unfold fndM; rw [if_pos ⟨h.1, hasO_cls h⟩]
theorem getAttrM_yes {w : WorldM} {x name : Int} (h : hasO w x) : getAttrM w x name = getR (fndM w (w.objs.getD x.toNat ⟨0, []⟩).cls name).1 (fndM w (w.objs.getD x.toNat ⟨0, []⟩).cls name).2 (findM name (nms (w.objs.getD x.toNat ⟨0, []⟩).pairs) 0)
    ((w.objs.getD x.toNat ⟨0, []⟩).pairs.getD (findM name (nms (w.objs.getD x.toNat ⟨0, []⟩).pairs) 0).toNat (0, 0)).2 x (w.objs.getD x.toNat ⟨0, []⟩).cls := by
  unfold getAttrM; rw [if_pos h, fndM_obj h]; unfold getM; rw [Int.toNat_of_nonneg h.2.1]
theorem fr_eq {f : Bool} {a b : FoundM} (h : a = b) : [SV.pv f (foundP a)] = [SV.pv f (foundP b)] := by rw [h]

/-- A member of a class: one of six types. -/
def MemIs (ow : Int) (a : AttrM) (p : PV) : Prop := (ow < 0 ∧ p = .ifc 126 (.agg [])) ∨ ((0 ≤ ow ∧ a.kind ≠ 1 ∧ a.kind ≠ 2 ∧ a.kind ≠ 3 ∧ a.kind ≠ 4) ∧ p = .ifc 128 (memP ow a)) ∨ ((0 ≤ ow ∧ a.kind = 1) ∧ p = .ifc 130 (memP ow a)) ∨
  ((0 ≤ ow ∧ a.kind = 3) ∧ p = .ifc 131 (memP ow a)) ∨ ((0 ≤ ow ∧ a.kind = 2) ∧ p = .ifc 133 (memP ow a)) ∨ ((0 ≤ ow ∧ a.kind = 4) ∧ p = .ifc 134 (memP ow a))
theorem mth126_byObject : MethAt Tryz.prog 126 "loop.example/objectmodel/impl.byObject" (.agg []) 181 (.agg []) := by
  intro w G v h
  cases h with
  | agg _ vs hl h1 h =>
    obtain ⟨l⟩ := vs
    match l, hl with
    | [], hl => exact ⟨.agg #[], by kernel_rfl, .agg _ _ rfl h1 h⟩
theorem mth128_byObject (c0 c1 c2 c3 : PV) : MethAt Tryz.prog 128 "loop.example/objectmodel/impl.byObject" (.agg [c0, c1, c2, c3]) 183 (.agg [c0, c1, c2, c3]) := by
  intro w G v h
  cases h with
  | agg _ vs hl h1 h =>
    obtain ⟨l⟩ := vs
    match l, hl with
    | [v0, v1, v2, v3], hl => exact ⟨.agg #[v0, v1, v2, v3], by kernel_rfl, .agg _ _ rfl h1 h⟩
theorem mth130_byObject (c0 c1 c2 c3 : PV) : MethAt Tryz.prog 130 "loop.example/objectmodel/impl.byObject" (.agg [c0, c1, c2, c3]) 185 (.agg [c0, c1, c2, c3]) := by
  intro w G v h
  cases h with
  | agg _ vs hl h1 h =>
    obtain ⟨l⟩ := vs
    match l, hl with
    | [v0, v1, v2, v3], hl => exact ⟨.agg #[v0, v1, v2, v3], by kernel_rfl, .agg _ _ rfl h1 h⟩
theorem mth131_byObject (c0 c1 c2 c3 : PV) : MethAt Tryz.prog 131 "loop.example/objectmodel/impl.byObject" (.agg [c0, c1, c2, c3]) 186 (.agg [c0, c1, c2, c3]) := by
  intro w G v h
  cases h with
  | agg _ vs hl h1 h =>
    obtain ⟨l⟩ := vs
    match l, hl with
    | [v0, v1, v2, v3], hl => exact ⟨.agg #[v0, v1, v2, v3], by kernel_rfl, .agg _ _ rfl h1 h⟩
theorem mth133_byObject (c0 c1 c2 c3 : PV) : MethAt Tryz.prog 133 "loop.example/objectmodel/impl.byObject" (.agg [c0, c1, c2, c3]) 186 (.agg [c0, c1, c2, c3]) := by
  intro w G v h
  cases h with
  | agg _ vs hl h1 h =>
    obtain ⟨l⟩ := vs
    match l, hl with
    | [v0, v1, v2, v3], hl => exact ⟨.agg #[v0, v1, v2, v3], by kernel_rfl, .agg _ _ rfl h1 h⟩
theorem mth134_byObject (c0 c1 c2 c3 : PV) : MethAt Tryz.prog 134 "loop.example/objectmodel/impl.byObject" (.agg [c0, c1, c2, c3]) 190 (.agg [c0, c1, c2, c3]) := by
  intro w G v h
  cases h with
  | agg _ vs hl h1 h =>
    obtain ⟨l⟩ := vs
    match l, hl with
    | [v0, v1, v2, v3], hl => exact ⟨.agg #[v0, v1, v2, v3], by kernel_rfl, .agg _ _ rfl h1 h⟩
theorem nms_lt {n : Int} {l : List (Int × Int)} : 0 ≤ findM n (nms l) 0 → findM n (nms l) 0 < l.length := fun h => by have := findM_ltL h; rw [nms_len] at this; exact this
theorem foundNothing_sat    : SatAt Tryz.prog 65 [] [] (fun res rows => res = [.pv true (foundP none0)] ∧ rows = []) := by
 refine sat_entry_G (rs := [(0, some (49, 4))]) Tryz.func65 rfl rfl (Nat.le_of_ble_eq_true rfl) (Nat.le_of_ble_eq_true rfl) (resTs1 ⟨_, _, Tryz.underlying49, rfl, inf49, sz49⟩) fun C hC => ?_
 rw [Tryz.ntmps65]
 replace hC : C.nb = 0 := hC
 refine vc_seq fun K1 hK1 => ?_
 refine vc_region ?_
 refine vo_alloc Z49 rfl ?_
 refine vo_stM ?_
 refine vo_nil ?_
 refine hK1 _ ?_
 refine vc_seq fun K2 hK2 => ?_
 refine vc_region ?_
 refine vo_build S49 rfl rfl rfl ?_
 refine vo_stM ?_
 refine vo_store_varS rfl rfl rfl inf49 sz49 rfl ?_
 refine vo_stM ?_
 refine vo_nil ?_
 refine hK2 _ ?_
 refine vc_ret ?_
 change retQ _ _ _ _ _
 refine retQ_sel [] (srows := []) (.inr rfl) hC rfl rfl rfl rfl rfl rfl rfl ?_
 exact ⟨rfl, rfl⟩


theorem found_sat {o : Int} {a : AttrM} {how : Int} {self : Int} : SatAt Tryz.prog 184 [.pv false (memP o a), i64 how, i64 self] [] (fun res rows => res = [.pv true (foundP ⟨how, o, a.value, self⟩)] ∧ rows = []) := by
 refine sat_entry_G (rs := [(6, some (49, 4))]) Tryz.func184 rfl rfl (Nat.le_of_ble_eq_true rfl) (Nat.le_of_ble_eq_true rfl) (resTs1 ⟨_, _, Tryz.underlying49, rfl, inf49, sz49⟩) fun C hC => ?_
 rw [Tryz.ntmps184]
 replace hC : C.nb = 0 := hC
 refine vc_seq fun K1 hK1 => ?_
 refine vc_region ?_
 refine vo_box rfl rfl ?_
 refine vo_stM ?_
 refine vo_alloc Z49 rfl ?_
 refine vo_stM ?_
 refine vo_nil ?_
 refine hK1 _ ?_
 refine vc_seq fun K2 hK2 => ?_
 refine vc_region ?_
 refine vo_move_pv rfl rfl ?_
 refine vo_fieldAddr_ptr rfl rfl Tryz.underlying128 rfl inf3 (by rw [sz3]; decide) ?_
 try simp only [Nat.zero_add]
 refine vo_load_var rfl rfl rfl Tryz.underlying3 rfl rfl ?_
 refine vo_fieldAddr_ptr rfl rfl Tryz.underlying128 rfl inf52 (by rw [sz52]; decide) ?_
 try simp only [Nat.zero_add]
 refine vo_fieldAddr_ptr rfl rfl Tryz.underlying52 rfl inf3 (by rw [sz3]; decide) ?_
 try simp only [Nat.zero_add]
 refine vo_load_var rfl rfl rfl Tryz.underlying3 rfl rfl ?_
 refine vo_move_pv rfl rfl ?_
 refine vo_build S49 rfl rfl rfl ?_
 refine vo_stM ?_
 refine vo_store_varS rfl rfl rfl inf49 sz49 rfl ?_
 refine vo_stM ?_
 refine vo_nil ?_
 refine hK2 _ ?_
 refine vc_ret ?_
 change retQ _ _ _ _ _
 refine retQ_sel [] (srows := []) (.inr rfl) hC rfl rfl rfl rfl rfl rfl rfl ?_
 exact ⟨rfl, rfl⟩


theorem plainByObject_sat {o : Int} {a : AttrM} {x : Int} {c : Int} : SatAt Tryz.prog 183 [.pv false (memP o a), i64 x, i64 c] [] (fun res rows => res = [.pv true (foundP ⟨2, o, a.value, -1⟩)] ∧ rows = []) := by
 refine sat_entry_G (rs := [(6, some (49, 4))]) Tryz.func183 rfl rfl (Nat.le_of_ble_eq_true rfl) (Nat.le_of_ble_eq_true rfl) (resTs1 ⟨_, _, Tryz.underlying49, rfl, inf49, sz49⟩) fun C hC => ?_
 rw [Tryz.ntmps183]
 replace hC : C.nb = 0 := hC
 refine vc_seq fun K1 hK1 => ?_
 refine vc_region ?_
 refine vo_box rfl rfl ?_
 refine vo_stM ?_
 refine vo_alloc Z49 rfl ?_
 refine vo_stM ?_
 refine vo_nil ?_
 refine hK1 _ ?_
 refine vc_seq fun K2 hK2 => ?_
 refine vc_region ?_
 refine vo_load_varS rfl rfl rfl Tryz.underlying128 rfl inf128 sz128 rfl rfl ?_
 refine vo_call0 Tryz.func184 rfl rfl rfl rfl (found_sat (o := o) (a := a)) ?_
 rintro _ _ ⟨rfl, rfl⟩
 refine ⟨rfl, rfl, .inl rfl, ?_⟩
 refine vo_stM ?_
 refine vo_store_varS rfl rfl rfl inf49 sz49 rfl ?_
 refine vo_stM ?_
 refine vo_nil ?_
 refine hK2 _ ?_
 refine vc_ret ?_
 change retQ _ _ _ _ _
 refine retQ_sel [] (srows := []) (.inr rfl) hC rfl rfl rfl rfl rfl rfl rfl ?_
 exact ⟨rfl, rfl⟩


theorem methodByObject_sat {o : Int} {a : AttrM} {x : Int} {c : Int} : SatAt Tryz.prog 185 [.pv false (memP o a), i64 x, i64 c] [] (fun res rows => res = [.pv true (foundP ⟨3, o, a.value, x⟩)] ∧ rows = []) := by
 refine sat_entry_G (rs := [(6, some (49, 4))]) Tryz.func185 rfl rfl (Nat.le_of_ble_eq_true rfl) (Nat.le_of_ble_eq_true rfl) (resTs1 ⟨_, _, Tryz.underlying49, rfl, inf49, sz49⟩) fun C hC => ?_
 rw [Tryz.ntmps185]
 replace hC : C.nb = 0 := hC
 refine vc_seq fun K1 hK1 => ?_
 refine vc_region ?_
 refine vo_box rfl rfl ?_
 refine vo_stM ?_
 refine vo_alloc Z49 rfl ?_
 refine vo_stM ?_
 refine vo_nil ?_
 refine hK1 _ ?_
 refine vc_seq fun K2 hK2 => ?_
 refine vc_region ?_
 refine vo_fieldAddr_ptr rfl rfl Tryz.underlying130 rfl inf128 (by rw [sz128]; decide) ?_
 try simp only [Nat.zero_add]
 refine vo_load_varS rfl rfl rfl Tryz.underlying128 rfl inf128 sz128 rfl rfl ?_
 refine vo_move_pv rfl rfl ?_
 refine vo_call0 Tryz.func184 rfl rfl rfl rfl (found_sat (o := o) (a := a)) ?_
 rintro _ _ ⟨rfl, rfl⟩
 refine ⟨rfl, rfl, .inl rfl, ?_⟩
 refine vo_stM ?_
 refine vo_store_varS rfl rfl rfl inf49 sz49 rfl ?_
 refine vo_stM ?_
 refine vo_nil ?_
 refine hK2 _ ?_
 refine vc_ret ?_
 change retQ _ _ _ _ _
 refine retQ_sel [] (srows := []) (.inr rfl) hC rfl rfl rfl rfl rfl rfl rfl ?_
 exact ⟨rfl, rfl⟩


theorem classByObject_sat {o : Int} {a : AttrM} {x : Int} {c : Int} : SatAt Tryz.prog 190 [.pv false (memP o a), i64 x, i64 c] [] (fun res rows => res = [.pv true (foundP ⟨3, o, a.value, c⟩)] ∧ rows = []) := by
 refine sat_entry_G (rs := [(6, some (49, 4))]) Tryz.func190 rfl rfl (Nat.le_of_ble_eq_true rfl) (Nat.le_of_ble_eq_true rfl) (resTs1 ⟨_, _, Tryz.underlying49, rfl, inf49, sz49⟩) fun C hC => ?_
 rw [Tryz.ntmps190]
 replace hC : C.nb = 0 := hC
 refine vc_seq fun K1 hK1 => ?_
 refine vc_region ?_
 refine vo_box rfl rfl ?_
 refine vo_stM ?_
 refine vo_alloc Z49 rfl ?_
 refine vo_stM ?_
 refine vo_nil ?_
 refine hK1 _ ?_
 refine vc_seq fun K2 hK2 => ?_
 refine vc_region ?_
 refine vo_fieldAddr_ptr rfl rfl Tryz.underlying134 rfl inf128 (by rw [sz128]; decide) ?_
 try simp only [Nat.zero_add]
 refine vo_load_varS rfl rfl rfl Tryz.underlying128 rfl inf128 sz128 rfl rfl ?_
 refine vo_move_pv rfl rfl ?_
 refine vo_call0 Tryz.func184 rfl rfl rfl rfl (found_sat (o := o) (a := a)) ?_
 rintro _ _ ⟨rfl, rfl⟩
 refine ⟨rfl, rfl, .inl rfl, ?_⟩
 refine vo_stM ?_
 refine vo_store_varS rfl rfl rfl inf49 sz49 rfl ?_
 refine vo_stM ?_
 refine vo_nil ?_
 refine hK2 _ ?_
 refine vc_ret ?_
 change retQ _ _ _ _ _
 refine retQ_sel [] (srows := []) (.inr rfl) hC rfl rfl rfl rfl rfl rfl rfl ?_
 exact ⟨rfl, rfl⟩


theorem fixedByObject_sat {o : Int} {a : AttrM} {x : Int} {c : Int} : SatAt Tryz.prog 186 [.pv false (memP o a), i64 x, i64 c] [] (fun res rows => res = [.pv true (foundP ⟨4, o, a.value, x⟩)] ∧ rows = []) := by
 refine sat_entry_G (rs := [(6, some (49, 4))]) Tryz.func186 rfl rfl (Nat.le_of_ble_eq_true rfl) (Nat.le_of_ble_eq_true rfl) (resTs1 ⟨_, _, Tryz.underlying49, rfl, inf49, sz49⟩) fun C hC => ?_
 rw [Tryz.ntmps186]
 replace hC : C.nb = 0 := hC
 refine vc_seq fun K1 hK1 => ?_
 refine vc_region ?_
 refine vo_box rfl rfl ?_
 refine vo_stM ?_
 refine vo_alloc Z49 rfl ?_
 refine vo_stM ?_
 refine vo_nil ?_
 refine hK1 _ ?_
 refine vc_seq fun K2 hK2 => ?_
 refine vc_region ?_
 refine vo_fieldAddr_ptr rfl rfl Tryz.underlying131 rfl inf128 (by rw [sz128]; decide) ?_
 try simp only [Nat.zero_add]
 refine vo_load_varS rfl rfl rfl Tryz.underlying128 rfl inf128 sz128 rfl rfl ?_
 refine vo_move_pv rfl rfl ?_
 refine vo_call0 Tryz.func184 rfl rfl rfl rfl (found_sat (o := o) (a := a)) ?_
 rintro _ _ ⟨rfl, rfl⟩
 refine ⟨rfl, rfl, .inl rfl, ?_⟩
 refine vo_stM ?_
 refine vo_store_varS rfl rfl rfl inf49 sz49 rfl ?_
 refine vo_stM ?_
 refine vo_nil ?_
 refine hK2 _ ?_
 refine vc_ret ?_
 change retQ _ _ _ _ _
 refine retQ_sel [] (srows := []) (.inr rfl) hC rfl rfl rfl rfl rfl rfl rfl ?_
 exact ⟨rfl, rfl⟩


theorem noByObject_sat {x c : Int} : SatAt Tryz.prog 181 [.pv false (.agg []), i64 x, i64 c] [] (fun res rows => res = [.pv true (foundP none0)] ∧ rows = []) := by
 refine sat_entry_G (rs := [(6, some (49, 4))]) Tryz.func181 rfl rfl (Nat.le_of_ble_eq_true rfl) (Nat.le_of_ble_eq_true rfl) (resTs1 ⟨_, _, Tryz.underlying49, rfl, inf49, sz49⟩) fun C hC => ?_
 rw [Tryz.ntmps181]
 replace hC : C.nb = 0 := hC
 refine vc_seq fun K1 hK1 => ?_
 refine vc_region ?_
 refine vo_box rfl rfl ?_
 refine vo_stM ?_
 refine vo_alloc Z49 rfl ?_
 refine vo_stM ?_
 refine vo_nil ?_
 refine hK1 _ ?_
 refine vc_seq fun K2 hK2 => ?_
 refine vc_region ?_
 refine vo_call0 Tryz.func65 rfl rfl rfl rfl foundNothing_sat ?_
 rintro _ _ ⟨rfl, rfl⟩
 refine ⟨rfl, rfl, .inl rfl, ?_⟩
 refine vo_stM ?_
 refine vo_store_varS rfl rfl rfl inf49 sz49 rfl ?_
 refine vo_stM ?_
 refine vo_nil ?_
 refine hK2 _ ?_
 refine vc_ret ?_
 change retQ _ _ _ _ _
 refine retQ_sel [] (srows := []) (.inr rfl) hC rfl rfl rfl rfl rfl rfl rfl ?_
 exact ⟨rfl, rfl⟩


theorem memberOf_sat {ow : Int} {a : AttrM}   : SatAt Tryz.prog 50 [i64 ow, .pv false (attrP a)] [] (fun res rows => ∃ p, MemIs ow a p ∧ res = [.pv true p] ∧ rows = []) := by
 refine sat_entry_G (rs := [(4, none)]) Tryz.func50 rfl rfl (Nat.le_of_ble_eq_true rfl) (Nat.le_of_ble_eq_true rfl) (resTs1 trivial) fun C hC => ?_
 rw [Tryz.ntmps50]
 replace hC : C.nb = 0 := hC
 refine vc_seq fun K1 hK1 => ?_
 refine vc_region ?_
 refine vo_box rfl rfl ?_
 refine vo_stM ?_
 refine vo_assign rfl ?_
 refine vo_stM ?_
 refine vo_nil ?_
 refine hK1 _ ?_
 refine vc_seq fun K2 hK2 => ?_
 refine vc_seq fun K3 hK3 => ?_
 refine vc_region ?_
 refine vo_move_pv rfl rfl ?_
 refine vo_binI rfl rfl rfl rfl trivial ?_
 refine vo_nil ?_
 refine hK3 _ ?_
 refine vc_cond rfl (fun hc1 => ?_) (fun hc1 => ?_)
 ·try simp only [zq0, zq1, zq2, zq3, zq4, zq5, zq6, zq7, zq8, zq9, zqa, zqb, zqc, zqd, zqe, zqf] at hc1
  refine vc_seq fun K4 hK4 => ?_
  refine vc_region ?_
  refine vo_build S126 rfl rfl rfl ?_
  refine vo_stM ?_
  refine vo_makeIface rfl rfl Tryz.underlying126 rfl ?_
  refine vo_stM ?_
  refine vo_assign rfl ?_
  refine vo_stM ?_
  refine vo_nil ?_
  refine hK4 _ ?_
  refine vc_ret ?_
  change retQ _ _ _ _ _
  refine retQ_sel [] (srows := []) (.inr rfl) hC rfl rfl rfl rfl rfl rfl rfl ?_
  first
   | exact ⟨_, .inl ⟨by omega, rfl⟩, rfl, rfl⟩
   | exact ⟨_, .inr (.inr (.inl ⟨⟨by omega, by omega⟩, rfl⟩)), rfl, rfl⟩
   | exact ⟨_, .inr (.inr (.inr (.inl ⟨⟨by omega, by omega⟩, rfl⟩))), rfl, rfl⟩
   | exact ⟨_, .inr (.inr (.inr (.inr (.inl ⟨⟨by omega, by omega⟩, rfl⟩)))), rfl, rfl⟩
   | exact ⟨_, .inr (.inr (.inr (.inr (.inr ⟨⟨by omega, by omega⟩, rfl⟩)))), rfl, rfl⟩
   | exact ⟨_, .inr (.inl ⟨⟨by omega, by omega, by omega, by omega, by omega⟩, rfl⟩), rfl, rfl⟩
 ·try simp only [zq0, zq1, zq2, zq3, zq4, zq5, zq6, zq7, zq8, zq9, zqa, zqb, zqc, zqd, zqe, zqf] at hc1
  refine vc_skip ?_
  refine hK2 _ ?_
  refine vc_seq fun K5 hK5 => ?_
  refine vc_region ?_
  refine vo_move_pv rfl rfl ?_
  refine vo_load_varS rfl rfl rfl Tryz.underlying52 rfl inf52 sz52 rfl rfl ?_
  refine vo_build S128 rfl rfl rfl ?_
  refine vo_stM ?_
  refine vo_alloc Z128 rfl ?_
  refine vo_stM ?_
  refine vo_store_varS rfl rfl rfl inf128 sz128 rfl ?_
  refine vo_stM ?_
  refine vo_nil ?_
  refine hK5 _ ?_
  refine vc_seq fun K6 hK6 => ?_
  refine vc_seq fun K7 hK7 => ?_
  refine vc_region ?_
  refine vo_fieldAddr_ptr rfl rfl Tryz.underlying52 rfl inf3 (by rw [sz3]; decide) ?_
  try simp only [Nat.zero_add]
  refine vo_load_var rfl rfl rfl Tryz.underlying3 rfl rfl ?_
  refine vo_nil ?_
  refine hK7 _ ?_
  refine vc_block ?_
  refine vc_seq fun K8 hK8 => ?_
  refine vc_region ?_
  refine vo_binI rfl rfl rfl rfl trivial ?_
  refine vo_assign_pv rfl rfl ?_
  refine vo_nil ?_
  refine hK8 _ ?_
  refine vc_cond rfl (fun hc2 => ?_) (fun hc2 => ?_)
  ·try simp only [zq0, zq1, zq2, zq3, zq4, zq5, zq6, zq7, zq8, zq9, zqa, zqb, zqc, zqd, zqe, zqf] at hc2
   refine vc_seq fun K9 hK9 => ?_
   refine vc_region ?_
   refine vo_load_varS rfl rfl rfl Tryz.underlying128 rfl inf128 sz128 rfl rfl ?_
   refine vo_build S130 rfl rfl rfl ?_
   refine vo_stM ?_
   refine vo_makeIface rfl rfl Tryz.underlying130 rfl ?_
   refine vo_stM ?_
   refine vo_assign rfl ?_
   refine vo_stM ?_
   refine vo_nil ?_
   refine hK9 _ ?_
   refine vc_ret ?_
   change retQ _ _ _ _ _
   refine retQ_sel [] (srows := []) (.inr rfl) hC rfl rfl rfl rfl rfl rfl rfl ?_
   first
    | exact ⟨_, .inl ⟨by omega, rfl⟩, rfl, rfl⟩
    | exact ⟨_, .inr (.inr (.inl ⟨⟨by omega, by omega⟩, rfl⟩)), rfl, rfl⟩
    | exact ⟨_, .inr (.inr (.inr (.inl ⟨⟨by omega, by omega⟩, rfl⟩))), rfl, rfl⟩
    | exact ⟨_, .inr (.inr (.inr (.inr (.inl ⟨⟨by omega, by omega⟩, rfl⟩)))), rfl, rfl⟩
    | exact ⟨_, .inr (.inr (.inr (.inr (.inr ⟨⟨by omega, by omega⟩, rfl⟩)))), rfl, rfl⟩
    | exact ⟨_, .inr (.inl ⟨⟨by omega, by omega, by omega, by omega, by omega⟩, rfl⟩), rfl, rfl⟩
  ·try simp only [zq0, zq1, zq2, zq3, zq4, zq5, zq6, zq7, zq8, zq9, zqa, zqb, zqc, zqd, zqe, zqf] at hc2
   refine vc_seq fun K10 hK10 => ?_
   refine vc_region ?_
   refine vo_binI rfl rfl rfl rfl trivial ?_
   refine vo_assign_pv rfl rfl ?_
   refine vo_nil ?_
   refine hK10 _ ?_
   refine vc_cond rfl (fun hc3 => ?_) (fun hc3 => ?_)
   ·try simp only [zq0, zq1, zq2, zq3, zq4, zq5, zq6, zq7, zq8, zq9, zqa, zqb, zqc, zqd, zqe, zqf] at hc3
    refine vc_seq fun K11 hK11 => ?_
    refine vc_region ?_
    refine vo_load_varS rfl rfl rfl Tryz.underlying128 rfl inf128 sz128 rfl rfl ?_
    refine vo_build S131 rfl rfl rfl ?_
    refine vo_stM ?_
    refine vo_build S133 rfl rfl rfl ?_
    refine vo_stM ?_
    refine vo_makeIface rfl rfl Tryz.underlying133 rfl ?_
    refine vo_stM ?_
    refine vo_assign rfl ?_
    refine vo_stM ?_
    refine vo_nil ?_
    refine hK11 _ ?_
    refine vc_ret ?_
    change retQ _ _ _ _ _
    refine retQ_sel [] (srows := []) (.inr rfl) hC rfl rfl rfl rfl rfl rfl rfl ?_
    first
     | exact ⟨_, .inl ⟨by omega, rfl⟩, rfl, rfl⟩
     | exact ⟨_, .inr (.inr (.inl ⟨⟨by omega, by omega⟩, rfl⟩)), rfl, rfl⟩
     | exact ⟨_, .inr (.inr (.inr (.inl ⟨⟨by omega, by omega⟩, rfl⟩))), rfl, rfl⟩
     | exact ⟨_, .inr (.inr (.inr (.inr (.inl ⟨⟨by omega, by omega⟩, rfl⟩)))), rfl, rfl⟩
     | exact ⟨_, .inr (.inr (.inr (.inr (.inr ⟨⟨by omega, by omega⟩, rfl⟩)))), rfl, rfl⟩
     | exact ⟨_, .inr (.inl ⟨⟨by omega, by omega, by omega, by omega, by omega⟩, rfl⟩), rfl, rfl⟩
   ·try simp only [zq0, zq1, zq2, zq3, zq4, zq5, zq6, zq7, zq8, zq9, zqa, zqb, zqc, zqd, zqe, zqf] at hc3
    refine vc_seq fun K12 hK12 => ?_
    refine vc_region ?_
    refine vo_binI rfl rfl rfl rfl trivial ?_
    refine vo_assign_pv rfl rfl ?_
    refine vo_nil ?_
    refine hK12 _ ?_
    refine vc_cond rfl (fun hc4 => ?_) (fun hc4 => ?_)
    ·try simp only [zq0, zq1, zq2, zq3, zq4, zq5, zq6, zq7, zq8, zq9, zqa, zqb, zqc, zqd, zqe, zqf] at hc4
     refine vc_seq fun K13 hK13 => ?_
     refine vc_region ?_
     refine vo_load_varS rfl rfl rfl Tryz.underlying128 rfl inf128 sz128 rfl rfl ?_
     refine vo_build S131 rfl rfl rfl ?_
     refine vo_stM ?_
     refine vo_makeIface rfl rfl Tryz.underlying131 rfl ?_
     refine vo_stM ?_
     refine vo_assign rfl ?_
     refine vo_stM ?_
     refine vo_nil ?_
     refine hK13 _ ?_
     refine vc_ret ?_
     change retQ _ _ _ _ _
     refine retQ_sel [] (srows := []) (.inr rfl) hC rfl rfl rfl rfl rfl rfl rfl ?_
     first
      | exact ⟨_, .inl ⟨by omega, rfl⟩, rfl, rfl⟩
      | exact ⟨_, .inr (.inr (.inl ⟨⟨by omega, by omega⟩, rfl⟩)), rfl, rfl⟩
      | exact ⟨_, .inr (.inr (.inr (.inl ⟨⟨by omega, by omega⟩, rfl⟩))), rfl, rfl⟩
      | exact ⟨_, .inr (.inr (.inr (.inr (.inl ⟨⟨by omega, by omega⟩, rfl⟩)))), rfl, rfl⟩
      | exact ⟨_, .inr (.inr (.inr (.inr (.inr ⟨⟨by omega, by omega⟩, rfl⟩)))), rfl, rfl⟩
      | exact ⟨_, .inr (.inl ⟨⟨by omega, by omega, by omega, by omega, by omega⟩, rfl⟩), rfl, rfl⟩
    ·try simp only [zq0, zq1, zq2, zq3, zq4, zq5, zq6, zq7, zq8, zq9, zqa, zqb, zqc, zqd, zqe, zqf] at hc4
     refine vc_seq fun K14 hK14 => ?_
     refine vc_region ?_
     refine vo_binI rfl rfl rfl rfl trivial ?_
     refine vo_assign_pv rfl rfl ?_
     refine vo_nil ?_
     refine hK14 _ ?_
     refine vc_cond rfl (fun hc5 => ?_) (fun hc5 => ?_)
     ·try simp only [zq0, zq1, zq2, zq3, zq4, zq5, zq6, zq7, zq8, zq9, zqa, zqb, zqc, zqd, zqe, zqf] at hc5
      refine vc_seq fun K15 hK15 => ?_
      refine vc_region ?_
      refine vo_load_varS rfl rfl rfl Tryz.underlying128 rfl inf128 sz128 rfl rfl ?_
      refine vo_build S134 rfl rfl rfl ?_
      refine vo_stM ?_
      refine vo_makeIface rfl rfl Tryz.underlying134 rfl ?_
      refine vo_stM ?_
      refine vo_assign rfl ?_
      refine vo_stM ?_
      refine vo_nil ?_
      refine hK15 _ ?_
      refine vc_ret ?_
      change retQ _ _ _ _ _
      refine retQ_sel [] (srows := []) (.inr rfl) hC rfl rfl rfl rfl rfl rfl rfl ?_
      first
       | exact ⟨_, .inl ⟨by omega, rfl⟩, rfl, rfl⟩
       | exact ⟨_, .inr (.inr (.inl ⟨⟨by omega, by omega⟩, rfl⟩)), rfl, rfl⟩
       | exact ⟨_, .inr (.inr (.inr (.inl ⟨⟨by omega, by omega⟩, rfl⟩))), rfl, rfl⟩
       | exact ⟨_, .inr (.inr (.inr (.inr (.inl ⟨⟨by omega, by omega⟩, rfl⟩)))), rfl, rfl⟩
       | exact ⟨_, .inr (.inr (.inr (.inr (.inr ⟨⟨by omega, by omega⟩, rfl⟩)))), rfl, rfl⟩
       | exact ⟨_, .inr (.inl ⟨⟨by omega, by omega, by omega, by omega, by omega⟩, rfl⟩), rfl, rfl⟩
     ·try simp only [zq0, zq1, zq2, zq3, zq4, zq5, zq6, zq7, zq8, zq9, zqa, zqb, zqc, zqd, zqe, zqf] at hc5
      refine vc_skip ?_
      refine hK6 _ ?_
      refine vc_seq fun K16 hK16 => ?_
      refine vc_region ?_
      refine vo_load_varS rfl rfl rfl Tryz.underlying128 rfl inf128 sz128 rfl rfl ?_
      refine vo_makeIface rfl rfl Tryz.underlying128 rfl ?_
      refine vo_stM ?_
      refine vo_assign rfl ?_
      refine vo_stM ?_
      refine vo_nil ?_
      refine hK16 _ ?_
      refine vc_ret ?_
      change retQ _ _ _ _ _
      refine retQ_sel [] (srows := []) (.inr rfl) hC rfl rfl rfl rfl rfl rfl rfl ?_
      first
       | exact ⟨_, .inl ⟨by omega, rfl⟩, rfl, rfl⟩
       | exact ⟨_, .inr (.inr (.inl ⟨⟨by omega, by omega⟩, rfl⟩)), rfl, rfl⟩
       | exact ⟨_, .inr (.inr (.inr (.inl ⟨⟨by omega, by omega⟩, rfl⟩))), rfl, rfl⟩
       | exact ⟨_, .inr (.inr (.inr (.inr (.inl ⟨⟨by omega, by omega⟩, rfl⟩)))), rfl, rfl⟩
       | exact ⟨_, .inr (.inr (.inr (.inr (.inr ⟨⟨by omega, by omega⟩, rfl⟩)))), rfl, rfl⟩
       | exact ⟨_, .inr (.inl ⟨⟨by omega, by omega, by omega, by omega, by omega⟩, rfl⟩), rfl, rfl⟩


theorem memberIn_sat {w : WorldM} {c : Int} {name : Int}  (hw : SW w) : SatAt Tryz.prog 57 [.pv false (worldP w), i64 c, i64 name] [] (fun res rows => ∃ p, MemIs (fndM w c name).1 (fndM w c name).2 p ∧ res = [.pv true p] ∧ rows = []) := by
 refine sat_entry_G (rs := [(6, none)]) Tryz.func57 rfl rfl (Nat.le_of_ble_eq_true rfl) (Nat.le_of_ble_eq_true rfl) (resTs1 trivial) fun C hC => ?_
 rw [Tryz.ntmps57]
 replace hC : C.nb = 0 := hC
 refine vc_seq fun K1 hK1 => ?_
 refine vc_region ?_
 refine vo_box rfl rfl ?_
 refine vo_stM ?_
 refine vo_assign rfl ?_
 refine vo_stM ?_
 refine vo_nil ?_
 refine hK1 _ ?_
 refine vc_seq fun K2 hK2 => ?_
 refine vc_region ?_
 refine vo_load_varS rfl rfl rfl Tryz.underlying33 rfl inf33 sz33 rfl rfl ?_
 refine vo_move_pv rfl rfl ?_
 refine vo_move_pv rfl rfl ?_
 refine vo_call0 Tryz.func27 rfl rfl rfl rfl (implFindIn_sat hw) ?_
 rintro _ _ ⟨rfl, rfl⟩
 refine ⟨rfl, rfl, .inl rfl, ?_⟩
 refine vo_stM ?_
 refine vo_extract rfl rfl rfl ?_
 refine vo_extract rfl rfl rfl ?_
 refine vo_call0 Tryz.func50 rfl rfl rfl rfl memberOf_sat ?_
 rintro _ _ ⟨p, hp, rfl, rfl⟩
 refine ⟨rfl, rfl, .inl rfl, ?_⟩
 refine vo_stM ?_
 refine vo_assign_pv rfl rfl ?_
 refine vo_nil ?_
 refine hK2 _ ?_
 refine vc_ret ?_
 change retQ _ _ _ _ _
 refine retQ_sel [] (srows := []) (.inr rfl) hC rfl rfl rfl rfl rfl rfl rfl ?_
 exact ⟨_, hp, rfl, rfl⟩


theorem pairPlace_sat {nl0 : Option Bool} {pairs : List (Int × Int)} {name : Int} (hpairs : pairs.length < 1000000000)  : SatAt Tryz.prog 56 [.pv false (.sl nl0 2 (pairs.map pairP)), i64 name] [] (fun res rows => res = [i64 (findM name (nms pairs) 0)] ∧ rows = []) := by
 refine sat_entry_G (rs := [(4, none)]) Tryz.func56 rfl rfl (Nat.le_of_ble_eq_true rfl) (Nat.le_of_ble_eq_true rfl) (resTs1 trivial) fun C hC => ?_
 rw [Tryz.ntmps56]
 replace hC : C.nb = 0 := hC
 refine vc_seq fun K1 hK1 => ?_
 refine vc_region ?_
 refine vo_assign_pv rfl rfl ?_
 refine vo_nil ?_
 refine hK1 _ ?_
 refine vc_seq fun K2 hK2 => ?_
 refine vc_region ?_
 refine vo_move_pv rfl rfl ?_
 refine vo_call0 Tryz.func101 rfl rfl rfl rfl (pairNames_sat hpairs) ?_
 rintro _ _ ⟨nl9, rfl, rfl⟩
 refine ⟨rfl, rfl, .inl rfl, ?_⟩
 refine vo_stM ?_
 refine vo_move_pv rfl rfl ?_
 refine vo_call0 Tryz.func100 rfl rfl rfl rfl (Index_sat (s := nms pairs) (by rw [nms_len]; omega)) ?_
 rintro _ _ ⟨rfl, rfl⟩
 refine ⟨rfl, rfl, .inl rfl, ?_⟩
 refine vo_stM ?_
 refine vo_assign_pv rfl rfl ?_
 refine vo_nil ?_
 refine hK2 _ ?_
 refine vc_ret ?_
 change retQ _ _ _ _ _
 refine retQ_sel [] (srows := []) (.inr rfl) hC rfl rfl rfl rfl rfl rfl rfl ?_
 refine ⟨?_, rfl⟩
 refine (congrArg (fun b => [i64 b]) (?_ : _ = _) : [i64 _] = [i64 _])
 rfl


theorem hasObject_sat {w : WorldM} {x : Int}  (hw : SW w) : SatAt Tryz.prog 49 [.pv false (worldP w), i64 x] [] (fun res rows => res = [bo (decide (hasO w x))] ∧ rows = []) := by
 have hw0 := hw
 obtain ⟨⟨b1, b2⟩, ⟨a1, a2⟩, o1, o2⟩ := hw
 refine sat_entry_G (rs := [(4, none)]) Tryz.func49 rfl rfl (Nat.le_of_ble_eq_true rfl) (Nat.le_of_ble_eq_true rfl) (resTs1 trivial) fun C hC => ?_
 rw [Tryz.ntmps49]
 replace hC : C.nb = 0 := hC
 refine vc_seq fun K1 hK1 => ?_
 refine vc_region ?_
 refine vo_box rfl rfl ?_
 refine vo_stM ?_
 refine vo_assign_pv rfl rfl ?_
 refine vo_nil ?_
 refine hK1 _ ?_
 refine vc_seq fun K2 hK2 => ?_
 refine vc_region ?_
 refine vo_load_varS rfl rfl rfl Tryz.underlying33 rfl inf33 sz33 rfl rfl ?_
 refine vo_call0 Tryz.func28 rfl rfl rfl rfl (implValidWorld_sat hw0) ?_
 rintro _ _ ⟨rfl, rfl⟩
 refine ⟨rfl, rfl, .inl rfl, ?_⟩
 refine vo_stM ?_
 refine vo_move_pv rfl rfl ?_
 refine vo_split 7 rfl (fun hg1 => ?_) (fun hg1 => ?_)
 ·try simp only [zq0, zq1, zq2, zq3, zq4, zq5, zq6, zq7, zq8, zq9, zqa, zqb, zqc, zqd, zqe, zqf] at hg1
  refine vo_guard_on rfl rfl rfl ?_
  refine vo_move_pv rfl rfl ?_
  refine vo_guard_on rfl rfl rfl ?_
  refine vo_fieldAddr_ptr rfl rfl Tryz.underlying33 rfl inf31 (by rw [sz31]; decide) ?_
  try simp only [Nat.zero_add]
  refine vo_guard_on rfl rfl rfl ?_
  refine vo_load_var rfl rfl rfl Tryz.underlying31 rfl rfl ?_
  refine vo_guard_on rfl rfl rfl ?_
  refine vo_len_pv rfl rfl Tryz.underlying31 ?_
  refine vo_guard_on rfl rfl rfl ?_
  refine vo_binI rfl rfl rfl rfl sd ?_
  refine vo_guard_on rfl rfl rfl ?_
  refine vo_call0 Tryz.func70 rfl rfl rfl rfl isUpTo_sat ?_
  rintro _ _ ⟨rfl, rfl⟩
  refine ⟨rfl, rfl, .inl rfl, ?_⟩
  refine vo_stM ?_
  refine vo_pick_t rfl rfl ?_
  refine vo_assign_pv rfl rfl ?_
  refine vo_nil ?_
  refine hK2 _ ?_
  refine vc_ret ?_
  change retQ _ _ _ _ _
  refine retQ_sel [] (srows := []) (.inr rfl) hC rfl rfl rfl rfl rfl rfl rfl ?_
  refine ⟨?_, rfl⟩
  refine (congrArg (fun b => [bo b]) (?_ : _ = _) : [bo _] = [bo _])
  first
   | exact bF fun h0 => absurd h0.1 (by assumption)
   | exact decide_eq_decide.2 ⟨fun h0 => ⟨by assumption, by omega, by simp only [List.length_map] at h0; omega⟩, fun h0 => by have := h0.2; simp only [List.length_map]; omega⟩
 ·try simp only [zq0, zq1, zq2, zq3, zq4, zq5, zq6, zq7, zq8, zq9, zqa, zqb, zqc, zqd, zqe, zqf] at hg1
  refine vo_guard_off rfl rfl rfl rfl rfl ?_
  refine vo_guard_off rfl rfl rfl rfl rfl ?_
  refine vo_guard_off rfl rfl rfl rfl rfl ?_
  refine vo_guard_off rfl rfl rfl rfl rfl ?_
  refine vo_guard_off rfl rfl rfl rfl rfl ?_
  refine vo_guard_off rfl rfl rfl rfl rfl ?_
  refine vo_pick_f rfl rfl ?_
  refine vo_assign_pv rfl rfl ?_
  refine vo_nil ?_
  refine hK2 _ ?_
  refine vc_ret ?_
  change retQ _ _ _ _ _
  refine retQ_sel [] (srows := []) (.inr rfl) hC rfl rfl rfl rfl rfl rfl rfl ?_
  refine ⟨?_, rfl⟩
  refine (congrArg (fun b => [bo b]) (?_ : _ = _) : [bo _] = [bo _])
  first
   | exact bF fun h0 => absurd h0.1 (by assumption)
   | exact decide_eq_decide.2 ⟨fun h0 => ⟨by assumption, by omega, by simp only [List.length_map] at h0; omega⟩, fun h0 => by have := h0.2; simp only [List.length_map]; omega⟩


theorem validObject_sat {w : WorldM} {x : Int}  (hw : SW w) : SatAt Tryz.prog 36 [.pv false (worldP w), i64 x] [] (fun res rows => res = [bo (decide (hasO w x))] ∧ rows = []) := by
 have hw0 := hw
 obtain ⟨⟨b1, b2⟩, ⟨a1, a2⟩, o1, o2⟩ := hw
 refine sat_entry_G (rs := [(4, none)]) Tryz.func36 rfl rfl (Nat.le_of_ble_eq_true rfl) (Nat.le_of_ble_eq_true rfl) (resTs1 trivial) fun C hC => ?_
 rw [Tryz.ntmps36]
 replace hC : C.nb = 0 := hC
 refine vc_seq fun K1 hK1 => ?_
 refine vc_region ?_
 refine vo_box rfl rfl ?_
 refine vo_stM ?_
 refine vo_assign_pv rfl rfl ?_
 refine vo_nil ?_
 refine hK1 _ ?_
 refine vc_seq fun K2 hK2 => ?_
 refine vc_region ?_
 refine vo_load_varS rfl rfl rfl Tryz.underlying33 rfl inf33 sz33 rfl rfl ?_
 refine vo_call0 Tryz.func78 rfl rfl rfl rfl (specValidWorld0_sat hw0) ?_
 rintro _ _ ⟨rfl, rfl⟩
 refine ⟨rfl, rfl, .inl rfl, ?_⟩
 refine vo_stM ?_
 refine vo_move_pv rfl rfl ?_
 refine vo_split 7 rfl (fun hg1 => ?_) (fun hg1 => ?_)
 ·try simp only [zq0, zq1, zq2, zq3, zq4, zq5, zq6, zq7, zq8, zq9, zqa, zqb, zqc, zqd, zqe, zqf] at hg1
  refine vo_guard_on rfl rfl rfl ?_
  refine vo_move_pv rfl rfl ?_
  refine vo_guard_on rfl rfl rfl ?_
  refine vo_fieldAddr_ptr rfl rfl Tryz.underlying33 rfl inf31 (by rw [sz31]; decide) ?_
  try simp only [Nat.zero_add]
  refine vo_guard_on rfl rfl rfl ?_
  refine vo_load_var rfl rfl rfl Tryz.underlying31 rfl rfl ?_
  refine vo_guard_on rfl rfl rfl ?_
  refine vo_len_pv rfl rfl Tryz.underlying31 ?_
  refine vo_guard_on rfl rfl rfl ?_
  refine vo_binI rfl rfl rfl rfl sd ?_
  refine vo_guard_on rfl rfl rfl ?_
  refine vo_call0 Tryz.func47 rfl rfl rfl rfl inRange_sat ?_
  rintro _ _ ⟨rfl, rfl⟩
  refine ⟨rfl, rfl, .inl rfl, ?_⟩
  refine vo_stM ?_
  refine vo_pick_t rfl rfl ?_
  refine vo_assign_pv rfl rfl ?_
  refine vo_nil ?_
  refine hK2 _ ?_
  refine vc_ret ?_
  change retQ _ _ _ _ _
  refine retQ_sel [] (srows := []) (.inr rfl) hC rfl rfl rfl rfl rfl rfl rfl ?_
  refine ⟨?_, rfl⟩
  refine (congrArg (fun b => [bo b]) (?_ : _ = _) : [bo _] = [bo _])
  first
   | exact bF fun h0 => absurd h0.1 (by assumption)
   | exact decide_eq_decide.2 ⟨fun h0 => ⟨by assumption, by omega, by simp only [List.length_map] at h0; omega⟩, fun h0 => by have := h0.2; simp only [List.length_map]; omega⟩
 ·try simp only [zq0, zq1, zq2, zq3, zq4, zq5, zq6, zq7, zq8, zq9, zqa, zqb, zqc, zqd, zqe, zqf] at hg1
  refine vo_guard_off rfl rfl rfl rfl rfl ?_
  refine vo_guard_off rfl rfl rfl rfl rfl ?_
  refine vo_guard_off rfl rfl rfl rfl rfl ?_
  refine vo_guard_off rfl rfl rfl rfl rfl ?_
  refine vo_guard_off rfl rfl rfl rfl rfl ?_
  refine vo_guard_off rfl rfl rfl rfl rfl ?_
  refine vo_pick_f rfl rfl ?_
  refine vo_assign_pv rfl rfl ?_
  refine vo_nil ?_
  refine hK2 _ ?_
  refine vc_ret ?_
  change retQ _ _ _ _ _
  refine retQ_sel [] (srows := []) (.inr rfl) hC rfl rfl rfl rfl rfl rfl rfl ?_
  refine ⟨?_, rfl⟩
  refine (congrArg (fun b => [bo b]) (?_ : _ = _) : [bo _] = [bo _])
  first
   | exact bF fun h0 => absurd h0.1 (by assumption)
   | exact decide_eq_decide.2 ⟨fun h0 => ⟨by assumption, by omega, by simp only [List.length_map] at h0; omega⟩, fun h0 => by have := h0.2; simp only [List.length_map]; omega⟩


theorem implGetAttr_sat {w : WorldM} {x : Int} {name : Int}  (hw : SW w) : SatAt Tryz.prog 26 [.pv false (worldP w), i64 x, i64 name] [] (fun res rows => res = [.pv true (foundP (getAttrM w x name))] ∧ rows = []) := by
 have hw0 := hw
 obtain ⟨⟨b1, b2⟩, ⟨a1, a2⟩, o1, o2⟩ := hw
 refine sat_entry_G (rs := [(6, some (49, 4))]) Tryz.func26 rfl rfl (Nat.le_of_ble_eq_true rfl) (Nat.le_of_ble_eq_true rfl) (resTs1 ⟨_, _, Tryz.underlying49, rfl, inf49, sz49⟩) fun C hC => ?_
 rw [Tryz.ntmps26]
 replace hC : C.nb = 0 := hC
 refine vc_seq fun K1 hK1 => ?_
 refine vc_region ?_
 refine vo_box rfl rfl ?_
 refine vo_stM ?_
 refine vo_alloc Z49 rfl ?_
 refine vo_stM ?_
 refine vo_nil ?_
 refine hK1 _ ?_
 refine vc_seq fun K2 hK2 => ?_
 refine vc_seq fun K3 hK3 => ?_
 refine vc_region ?_
 refine vo_load_varS rfl rfl rfl Tryz.underlying33 rfl inf33 sz33 rfl rfl ?_
 refine vo_move_pv rfl rfl ?_
 refine vo_call0 Tryz.func49 rfl rfl rfl rfl (hasObject_sat hw0) ?_
 rintro _ _ ⟨rfl, rfl⟩
 refine ⟨rfl, rfl, .inl rfl, ?_⟩
 refine vo_stM ?_
 refine vo_not rfl rfl ?_
 refine vo_nil ?_
 refine hK3 _ ?_
 refine vc_cond rfl (fun hc1 => ?_) (fun hc1 => ?_)
 ·try simp only [zq0, zq1, zq2, zq3, zq4, zq5, zq6, zq7, zq8, zq9, zqa, zqb, zqc, zqd, zqe, zqf] at hc1
  refine vc_seq fun K4 hK4 => ?_
  refine vc_region ?_
  refine vo_call0 Tryz.func65 rfl rfl rfl rfl foundNothing_sat ?_
  rintro _ _ ⟨rfl, rfl⟩
  refine ⟨rfl, rfl, .inl rfl, ?_⟩
  refine vo_stM ?_
  refine vo_store_varS rfl rfl rfl inf49 sz49 rfl ?_
  refine vo_stM ?_
  refine vo_nil ?_
  refine hK4 _ ?_
  refine vc_ret ?_
  change retQ _ _ _ _ _
  refine retQ_sel [] (srows := []) (.inr rfl) hC rfl rfl rfl rfl rfl rfl rfl ?_
  refine ⟨fr_eq (?_ : FoundM.mk _ _ _ _ = _), rfl⟩
  unfold getAttrM; rw [if_neg (by assumption)]; rfl
 ·try simp only [zq0, zq1, zq2, zq3, zq4, zq5, zq6, zq7, zq8, zq9, zqa, zqb, zqc, zqd, zqe, zqf] at hc1
  have hx2 := hc1.2
  have hcl := hasO_cls hc1
  have hxl : x.toNat < w.objs.length := by have := hc1.2; omega
  have hof := getD_all o2 ⟨0, []⟩ SO_zero x.toNat
  unfold SO at hof
  have hnl := nms_lt (n := name) (l := (w.objs.getD x.toNat ⟨0, []⟩).pairs)
  refine vc_skip ?_
  refine hK2 _ ?_
  refine vc_seq fun K5 hK5 => ?_
  refine vc_region ?_
  refine vo_fieldAddr_ptr rfl rfl Tryz.underlying33 rfl inf31 (by rw [sz31]; decide) ?_
  try simp only [Nat.zero_add]
  refine vo_load_var rfl rfl rfl Tryz.underlying31 rfl rfl ?_
  refine vo_move_pv rfl rfl ?_
  refine vo_index_pv (.agg [(.int .i64 0), (.sl none 2 [])]) rfl rfl rfl E31.und inf57 sz57 sd sd ?_
  simp only [Int.toNat_natCast, Int.toNat_zero, getD_ints, getD_intss, getD_bools, getD_bytes, PV.cells, getD_ops, getD_pairs, getD_insts, getD_attrs, getD_attrss, getD_objs, getD_ordP]
  refine vo_load_adrS rfl rfl Tryz.underlying57 rfl inf57 sz57 rfl ?_
  refine vo_st (by (try simp only [St.put, PV.cells, PV.scal, List.drop_succ_cons, List.drop_zero, List.take_succ_cons, List.take_zero, List.map_cons, List.map_nil, Bool.or_true, Bool.or_false, Bool.false_or, Bool.true_or, opP, pairP, instP, heapP]); exact eq_refl _) ?_
  refine vo_alloc Z57 rfl ?_
  refine vo_stM ?_
  refine vo_store_varS rfl rfl rfl inf57 sz57 rfl ?_
  refine vo_stM ?_
  refine vo_nil ?_
  refine hK5 _ ?_
  refine vc_seq fun K6 hK6 => ?_
  refine vc_region ?_
  refine vo_load_varS rfl rfl rfl Tryz.underlying33 rfl inf33 sz33 rfl rfl ?_
  refine vo_fieldAddr_ptr rfl rfl Tryz.underlying57 rfl inf3 (by rw [sz3]; decide) ?_
  try simp only [Nat.zero_add]
  refine vo_load_var rfl rfl rfl Tryz.underlying3 rfl rfl ?_
  refine vo_move_pv rfl rfl ?_
  refine vo_call0 Tryz.func57 rfl rfl rfl rfl (memberIn_sat hw0) ?_
  rintro _ _ ⟨p, hp, rfl, rfl⟩
  refine ⟨rfl, rfl, .inl rfl, ?_⟩
  refine vo_stM ?_
  rcases hp with ⟨hk, rfl⟩ | ⟨hk, rfl⟩ | ⟨hk, rfl⟩ | ⟨hk, rfl⟩ | ⟨hk, rfl⟩ | ⟨hk, rfl⟩
  ·skip
   refine vo_assign rfl ?_
   refine vo_stM ?_
   refine vo_nil ?_
   refine hK6 _ ?_
   refine vc_seq fun K7 hK7 => ?_
   refine vc_region ?_
   refine vo_fieldAddr_ptr rfl rfl Tryz.underlying57 rfl inf55 (by rw [sz55]; decide) ?_
   try simp only [Nat.zero_add]
   refine vo_load_var rfl rfl rfl Tryz.underlying55 rfl rfl ?_
   refine vo_move_pv rfl rfl ?_
   refine vo_call0 Tryz.func56 rfl rfl rfl rfl (pairPlace_sat (by omega)) ?_
   rintro _ _ ⟨rfl, rfl⟩
   refine ⟨rfl, rfl, .inl rfl, ?_⟩
   refine vo_stM ?_
   refine vo_assign_pv rfl rfl ?_
   refine vo_nil ?_
   refine hK7 _ ?_
   refine vc_seq fun K8 hK8 => ?_
   refine vc_seq fun K9 hK9 => ?_
   refine vc_region ?_
   refine vo_move rfl ?_
   refine vo_stM ?_
   refine vo_assert_no rfl rfl Tryz.underlying79 inf126 (by kernel_rfl) (fun w => by kernel_rfl) ?_
   refine vo_stM ?_
   refine vo_move rfl ?_
   refine vo_stM ?_
   refine vo_extract rfl rfl rfl ?_
   refine vo_extract rfl rfl rfl ?_
   refine vo_assign_pv rfl rfl ?_
   refine vo_assign_pv rfl rfl ?_
   refine vo_nil ?_
   refine hK9 _ ?_
   refine vc_seq fun K10 hK10 => ?_
   refine vc_region ?_
   refine vo_move_pv rfl rfl ?_
   refine vo_move_pv rfl rfl ?_
   refine vo_guard_on rfl rfl rfl ?_
   refine vo_move_pv rfl rfl ?_
   refine vo_guard_on rfl rfl rfl ?_
   refine vo_binI rfl rfl rfl rfl trivial ?_
   refine vo_pick_f rfl rfl ?_
   refine vo_nil ?_
   refine hK10 _ ?_
   refine vc_cond rfl (fun hc2 => ?_) (fun hc2 => ?_)
   ·try simp only [zq0, zq1, zq2, zq3, zq4, zq5, zq6, zq7, zq8, zq9, zqa, zqb, zqc, zqd, zqe, zqf] at hc2
    refine vc_seq fun K11 hK11 => ?_
    refine vc_region ?_
    refine vo_move rfl ?_
    refine vo_stM ?_
    refine vo_move_pv rfl rfl ?_
    refine vo_fieldAddr_ptr rfl rfl Tryz.underlying57 rfl inf3 (by rw [sz3]; decide) ?_
    try simp only [Nat.zero_add]
    refine vo_load_var rfl rfl rfl Tryz.underlying3 rfl rfl ?_
    refine vo_invoke [] rfl (mth126_byObject) Tryz.func181 rfl rfl rfl rfl rfl rfl rfl noByObject_sat ?_
    rintro _ _ ⟨rfl, rfl⟩
    refine ⟨Nat.le_of_ble_eq_true rfl, ⟨rfl, rfl, rfl, rfl⟩, .inl rfl, ?_⟩
    refine vo_stM ?_
    refine vo_store_varS rfl rfl rfl inf49 sz49 rfl ?_
    refine vo_stM ?_
    refine vo_nil ?_
    refine hK11 _ ?_
    refine vc_ret ?_
    change retQ _ _ _ _ _
    refine retQ_sel [] (srows := []) (.inr rfl) hC rfl rfl rfl rfl rfl rfl rfl ?_
    refine ⟨fr_eq (?_ : FoundM.mk _ _ _ _ = _), rfl⟩
    rw [getAttrM_yes hc1]
    unfold getR bindM none0
    repeat' split
    all_goals first | rfl | (exfalso; omega) | (simp only [FoundM.mk.injEq]; omega)
   ·try simp only [zq0, zq1, zq2, zq3, zq4, zq5, zq6, zq7, zq8, zq9, zqa, zqb, zqc, zqd, zqe, zqf] at hc2
    refine vc_skip ?_
    refine hK8 _ ?_
    refine vc_seq fun K12 hK12 => ?_
    refine vc_region ?_
    refine vo_fieldAddr_ptr rfl rfl Tryz.underlying57 rfl inf55 (by rw [sz55]; decide) ?_
    try simp only [Nat.zero_add]
    refine vo_load_var rfl rfl rfl Tryz.underlying55 rfl rfl ?_
    refine vo_move_pv rfl rfl ?_
    refine vo_index_pv (.agg [(.int .i64 0), (.int .i64 0)]) rfl rfl rfl E55.und inf102 sz102 sd sd ?_
    simp only [Int.toNat_natCast, Int.toNat_zero, getD_ints, getD_intss, getD_bools, getD_bytes, PV.cells, getD_ops, getD_pairs, getD_insts, getD_attrs, getD_attrss, getD_objs, getD_ordP]
    refine vo_fieldAddr_adr rfl rfl Tryz.underlying102 rfl inf3 (by rw [sz3]; decide) ?_
    refine vo_load_adr rfl rfl Tryz.underlying3 rfl ?_
    refine vo_move_pv rfl rfl ?_
    refine vo_build S49 rfl rfl rfl ?_
    refine vo_stM ?_
    refine vo_store_varS rfl rfl rfl inf49 sz49 rfl ?_
    refine vo_stM ?_
    refine vo_nil ?_
    refine hK12 _ ?_
    refine vc_ret ?_
    change retQ _ _ _ _ _
    refine retQ_sel [] (srows := []) (.inr rfl) hC rfl rfl rfl rfl rfl rfl rfl ?_
    refine ⟨fr_eq (?_ : FoundM.mk _ _ _ _ = _), rfl⟩
    rw [getAttrM_yes hc1]
    unfold getR bindM none0
    repeat' split
    all_goals first | rfl | (exfalso; omega) | (simp only [FoundM.mk.injEq]; omega)
  ·skip
   refine vo_assign rfl ?_
   refine vo_stM ?_
   refine vo_nil ?_
   refine hK6 _ ?_
   refine vc_seq fun K13 hK13 => ?_
   refine vc_region ?_
   refine vo_fieldAddr_ptr rfl rfl Tryz.underlying57 rfl inf55 (by rw [sz55]; decide) ?_
   try simp only [Nat.zero_add]
   refine vo_load_var rfl rfl rfl Tryz.underlying55 rfl rfl ?_
   refine vo_move_pv rfl rfl ?_
   refine vo_call0 Tryz.func56 rfl rfl rfl rfl (pairPlace_sat (by omega)) ?_
   rintro _ _ ⟨rfl, rfl⟩
   refine ⟨rfl, rfl, .inl rfl, ?_⟩
   refine vo_stM ?_
   refine vo_assign_pv rfl rfl ?_
   refine vo_nil ?_
   refine hK13 _ ?_
   refine vc_seq fun K14 hK14 => ?_
   refine vc_seq fun K15 hK15 => ?_
   refine vc_region ?_
   refine vo_move rfl ?_
   refine vo_stM ?_
   refine vo_assert_no rfl rfl Tryz.underlying79 inf128 (by kernel_rfl) (fun w => by kernel_rfl) ?_
   refine vo_stM ?_
   refine vo_move rfl ?_
   refine vo_stM ?_
   refine vo_extract rfl rfl rfl ?_
   refine vo_extract rfl rfl rfl ?_
   refine vo_assign_pv rfl rfl ?_
   refine vo_assign_pv rfl rfl ?_
   refine vo_nil ?_
   refine hK15 _ ?_
   refine vc_seq fun K16 hK16 => ?_
   refine vc_region ?_
   refine vo_move_pv rfl rfl ?_
   refine vo_move_pv rfl rfl ?_
   refine vo_guard_on rfl rfl rfl ?_
   refine vo_move_pv rfl rfl ?_
   refine vo_guard_on rfl rfl rfl ?_
   refine vo_binI rfl rfl rfl rfl trivial ?_
   refine vo_pick_f rfl rfl ?_
   refine vo_nil ?_
   refine hK16 _ ?_
   refine vc_cond rfl (fun hc3 => ?_) (fun hc3 => ?_)
   ·try simp only [zq0, zq1, zq2, zq3, zq4, zq5, zq6, zq7, zq8, zq9, zqa, zqb, zqc, zqd, zqe, zqf] at hc3
    refine vc_seq fun K17 hK17 => ?_
    refine vc_region ?_
    refine vo_move rfl ?_
    refine vo_stM ?_
    refine vo_move_pv rfl rfl ?_
    refine vo_fieldAddr_ptr rfl rfl Tryz.underlying57 rfl inf3 (by rw [sz3]; decide) ?_
    try simp only [Nat.zero_add]
    refine vo_load_var rfl rfl rfl Tryz.underlying3 rfl rfl ?_
    refine vo_invoke [] rfl (mth128_byObject _ _ _ _) Tryz.func183 rfl rfl rfl rfl rfl rfl rfl (plainByObject_sat (o := _) (a := ⟨_, _, _⟩)) ?_
    rintro _ _ ⟨rfl, rfl⟩
    refine ⟨Nat.le_of_ble_eq_true rfl, ⟨rfl, rfl, rfl, rfl⟩, .inl rfl, ?_⟩
    refine vo_stM ?_
    refine vo_store_varS rfl rfl rfl inf49 sz49 rfl ?_
    refine vo_stM ?_
    refine vo_nil ?_
    refine hK17 _ ?_
    refine vc_ret ?_
    change retQ _ _ _ _ _
    refine retQ_sel [] (srows := []) (.inr rfl) hC rfl rfl rfl rfl rfl rfl rfl ?_
    refine ⟨fr_eq (?_ : FoundM.mk _ _ _ _ = _), rfl⟩
    rw [getAttrM_yes hc1]
    unfold getR bindM none0
    repeat' split
    all_goals first | rfl | (exfalso; omega) | (simp only [FoundM.mk.injEq]; omega)
   ·try simp only [zq0, zq1, zq2, zq3, zq4, zq5, zq6, zq7, zq8, zq9, zqa, zqb, zqc, zqd, zqe, zqf] at hc3
    refine vc_skip ?_
    refine hK14 _ ?_
    refine vc_seq fun K18 hK18 => ?_
    refine vc_region ?_
    refine vo_fieldAddr_ptr rfl rfl Tryz.underlying57 rfl inf55 (by rw [sz55]; decide) ?_
    try simp only [Nat.zero_add]
    refine vo_load_var rfl rfl rfl Tryz.underlying55 rfl rfl ?_
    refine vo_move_pv rfl rfl ?_
    refine vo_index_pv (.agg [(.int .i64 0), (.int .i64 0)]) rfl rfl rfl E55.und inf102 sz102 sd sd ?_
    simp only [Int.toNat_natCast, Int.toNat_zero, getD_ints, getD_intss, getD_bools, getD_bytes, PV.cells, getD_ops, getD_pairs, getD_insts, getD_attrs, getD_attrss, getD_objs, getD_ordP]
    refine vo_fieldAddr_adr rfl rfl Tryz.underlying102 rfl inf3 (by rw [sz3]; decide) ?_
    refine vo_load_adr rfl rfl Tryz.underlying3 rfl ?_
    refine vo_move_pv rfl rfl ?_
    refine vo_build S49 rfl rfl rfl ?_
    refine vo_stM ?_
    refine vo_store_varS rfl rfl rfl inf49 sz49 rfl ?_
    refine vo_stM ?_
    refine vo_nil ?_
    refine hK18 _ ?_
    refine vc_ret ?_
    change retQ _ _ _ _ _
    refine retQ_sel [] (srows := []) (.inr rfl) hC rfl rfl rfl rfl rfl rfl rfl ?_
    refine ⟨fr_eq (?_ : FoundM.mk _ _ _ _ = _), rfl⟩
    rw [getAttrM_yes hc1]
    unfold getR bindM none0
    repeat' split
    all_goals first | rfl | (exfalso; omega) | (simp only [FoundM.mk.injEq]; omega)
  ·skip
   refine vo_assign rfl ?_
   refine vo_stM ?_
   refine vo_nil ?_
   refine hK6 _ ?_
   refine vc_seq fun K19 hK19 => ?_
   refine vc_region ?_
   refine vo_fieldAddr_ptr rfl rfl Tryz.underlying57 rfl inf55 (by rw [sz55]; decide) ?_
   try simp only [Nat.zero_add]
   refine vo_load_var rfl rfl rfl Tryz.underlying55 rfl rfl ?_
   refine vo_move_pv rfl rfl ?_
   refine vo_call0 Tryz.func56 rfl rfl rfl rfl (pairPlace_sat (by omega)) ?_
   rintro _ _ ⟨rfl, rfl⟩
   refine ⟨rfl, rfl, .inl rfl, ?_⟩
   refine vo_stM ?_
   refine vo_assign_pv rfl rfl ?_
   refine vo_nil ?_
   refine hK19 _ ?_
   refine vc_seq fun K20 hK20 => ?_
   refine vc_seq fun K21 hK21 => ?_
   refine vc_region ?_
   refine vo_move rfl ?_
   refine vo_stM ?_
   refine vo_assert_no rfl rfl Tryz.underlying79 inf130 (by kernel_rfl) (fun w => by kernel_rfl) ?_
   refine vo_stM ?_
   refine vo_move rfl ?_
   refine vo_stM ?_
   refine vo_extract rfl rfl rfl ?_
   refine vo_extract rfl rfl rfl ?_
   refine vo_assign_pv rfl rfl ?_
   refine vo_assign_pv rfl rfl ?_
   refine vo_nil ?_
   refine hK21 _ ?_
   refine vc_seq fun K22 hK22 => ?_
   refine vc_region ?_
   refine vo_move_pv rfl rfl ?_
   refine vo_move_pv rfl rfl ?_
   refine vo_guard_on rfl rfl rfl ?_
   refine vo_move_pv rfl rfl ?_
   refine vo_guard_on rfl rfl rfl ?_
   refine vo_binI rfl rfl rfl rfl trivial ?_
   refine vo_pick_f rfl rfl ?_
   refine vo_nil ?_
   refine hK22 _ ?_
   refine vc_cond rfl (fun hc4 => ?_) (fun hc4 => ?_)
   ·try simp only [zq0, zq1, zq2, zq3, zq4, zq5, zq6, zq7, zq8, zq9, zqa, zqb, zqc, zqd, zqe, zqf] at hc4
    refine vc_seq fun K23 hK23 => ?_
    refine vc_region ?_
    refine vo_move rfl ?_
    refine vo_stM ?_
    refine vo_move_pv rfl rfl ?_
    refine vo_fieldAddr_ptr rfl rfl Tryz.underlying57 rfl inf3 (by rw [sz3]; decide) ?_
    try simp only [Nat.zero_add]
    refine vo_load_var rfl rfl rfl Tryz.underlying3 rfl rfl ?_
    refine vo_invoke [] rfl (mth130_byObject _ _ _ _) Tryz.func185 rfl rfl rfl rfl rfl rfl rfl (methodByObject_sat (o := _) (a := ⟨_, _, _⟩)) ?_
    rintro _ _ ⟨rfl, rfl⟩
    refine ⟨Nat.le_of_ble_eq_true rfl, ⟨rfl, rfl, rfl, rfl⟩, .inl rfl, ?_⟩
    refine vo_stM ?_
    refine vo_store_varS rfl rfl rfl inf49 sz49 rfl ?_
    refine vo_stM ?_
    refine vo_nil ?_
    refine hK23 _ ?_
    refine vc_ret ?_
    change retQ _ _ _ _ _
    refine retQ_sel [] (srows := []) (.inr rfl) hC rfl rfl rfl rfl rfl rfl rfl ?_
    refine ⟨fr_eq (?_ : FoundM.mk _ _ _ _ = _), rfl⟩
    rw [getAttrM_yes hc1]
    unfold getR bindM none0
    repeat' split
    all_goals first | rfl | (exfalso; omega) | (simp only [FoundM.mk.injEq]; omega)
   ·try simp only [zq0, zq1, zq2, zq3, zq4, zq5, zq6, zq7, zq8, zq9, zqa, zqb, zqc, zqd, zqe, zqf] at hc4
    refine vc_skip ?_
    refine hK20 _ ?_
    refine vc_seq fun K24 hK24 => ?_
    refine vc_region ?_
    refine vo_fieldAddr_ptr rfl rfl Tryz.underlying57 rfl inf55 (by rw [sz55]; decide) ?_
    try simp only [Nat.zero_add]
    refine vo_load_var rfl rfl rfl Tryz.underlying55 rfl rfl ?_
    refine vo_move_pv rfl rfl ?_
    refine vo_index_pv (.agg [(.int .i64 0), (.int .i64 0)]) rfl rfl rfl E55.und inf102 sz102 sd sd ?_
    simp only [Int.toNat_natCast, Int.toNat_zero, getD_ints, getD_intss, getD_bools, getD_bytes, PV.cells, getD_ops, getD_pairs, getD_insts, getD_attrs, getD_attrss, getD_objs, getD_ordP]
    refine vo_fieldAddr_adr rfl rfl Tryz.underlying102 rfl inf3 (by rw [sz3]; decide) ?_
    refine vo_load_adr rfl rfl Tryz.underlying3 rfl ?_
    refine vo_move_pv rfl rfl ?_
    refine vo_build S49 rfl rfl rfl ?_
    refine vo_stM ?_
    refine vo_store_varS rfl rfl rfl inf49 sz49 rfl ?_
    refine vo_stM ?_
    refine vo_nil ?_
    refine hK24 _ ?_
    refine vc_ret ?_
    change retQ _ _ _ _ _
    refine retQ_sel [] (srows := []) (.inr rfl) hC rfl rfl rfl rfl rfl rfl rfl ?_
    refine ⟨fr_eq (?_ : FoundM.mk _ _ _ _ = _), rfl⟩
    rw [getAttrM_yes hc1]
    unfold getR bindM none0
    repeat' split
    all_goals first | rfl | (exfalso; omega) | (simp only [FoundM.mk.injEq]; omega)
  ·skip
   refine vo_assign rfl ?_
   refine vo_stM ?_
   refine vo_nil ?_
   refine hK6 _ ?_
   refine vc_seq fun K25 hK25 => ?_
   refine vc_region ?_
   refine vo_fieldAddr_ptr rfl rfl Tryz.underlying57 rfl inf55 (by rw [sz55]; decide) ?_
   try simp only [Nat.zero_add]
   refine vo_load_var rfl rfl rfl Tryz.underlying55 rfl rfl ?_
   refine vo_move_pv rfl rfl ?_
   refine vo_call0 Tryz.func56 rfl rfl rfl rfl (pairPlace_sat (by omega)) ?_
   rintro _ _ ⟨rfl, rfl⟩
   refine ⟨rfl, rfl, .inl rfl, ?_⟩
   refine vo_stM ?_
   refine vo_assign_pv rfl rfl ?_
   refine vo_nil ?_
   refine hK25 _ ?_
   refine vc_seq fun K26 hK26 => ?_
   refine vc_seq fun K27 hK27 => ?_
   refine vc_region ?_
   refine vo_move rfl ?_
   refine vo_stM ?_
   refine vo_assert_yes rfl rfl Tryz.underlying79 inf131 (by kernel_rfl) ?_
   refine vo_stM ?_
   refine vo_move rfl ?_
   refine vo_stM ?_
   refine vo_extract rfl rfl rfl ?_
   refine vo_extract rfl rfl rfl ?_
   refine vo_assign rfl ?_
   refine vo_stM ?_
   refine vo_assign_pv rfl rfl ?_
   refine vo_nil ?_
   refine hK27 _ ?_
   refine vc_seq fun K28 hK28 => ?_
   refine vc_region ?_
   refine vo_move_pv rfl rfl ?_
   refine vo_move_pv rfl rfl ?_
   refine vo_guard_off rfl rfl rfl rfl rfl ?_
   refine vo_guard_off rfl rfl rfl rfl rfl ?_
   refine vo_pick_t rfl rfl ?_
   refine vo_nil ?_
   refine hK28 _ ?_
   refine vc_cond_t rfl ?_
   refine vc_seq fun K29 hK29 => ?_
   refine vc_region ?_
   refine vo_move rfl ?_
   refine vo_stM ?_
   refine vo_move_pv rfl rfl ?_
   refine vo_fieldAddr_ptr rfl rfl Tryz.underlying57 rfl inf3 (by rw [sz3]; decide) ?_
   try simp only [Nat.zero_add]
   refine vo_load_var rfl rfl rfl Tryz.underlying3 rfl rfl ?_
   refine vo_invoke [] rfl (mth131_byObject _ _ _ _) Tryz.func186 rfl rfl rfl rfl rfl rfl rfl (fixedByObject_sat (o := _) (a := ⟨_, _, _⟩)) ?_
   rintro _ _ ⟨rfl, rfl⟩
   refine ⟨Nat.le_of_ble_eq_true rfl, ⟨rfl, rfl, rfl, rfl⟩, .inl rfl, ?_⟩
   refine vo_stM ?_
   refine vo_store_varS rfl rfl rfl inf49 sz49 rfl ?_
   refine vo_stM ?_
   refine vo_nil ?_
   refine hK29 _ ?_
   refine vc_ret ?_
   change retQ _ _ _ _ _
   refine retQ_sel [] (srows := []) (.inr rfl) hC rfl rfl rfl rfl rfl rfl rfl ?_
   refine ⟨fr_eq (?_ : FoundM.mk _ _ _ _ = _), rfl⟩
   rw [getAttrM_yes hc1]
   unfold getR bindM none0
   repeat' split
   all_goals first | rfl | (exfalso; omega) | (simp only [FoundM.mk.injEq]; omega)
  ·skip
   refine vo_assign rfl ?_
   refine vo_stM ?_
   refine vo_nil ?_
   refine hK6 _ ?_
   refine vc_seq fun K30 hK30 => ?_
   refine vc_region ?_
   refine vo_fieldAddr_ptr rfl rfl Tryz.underlying57 rfl inf55 (by rw [sz55]; decide) ?_
   try simp only [Nat.zero_add]
   refine vo_load_var rfl rfl rfl Tryz.underlying55 rfl rfl ?_
   refine vo_move_pv rfl rfl ?_
   refine vo_call0 Tryz.func56 rfl rfl rfl rfl (pairPlace_sat (by omega)) ?_
   rintro _ _ ⟨rfl, rfl⟩
   refine ⟨rfl, rfl, .inl rfl, ?_⟩
   refine vo_stM ?_
   refine vo_assign_pv rfl rfl ?_
   refine vo_nil ?_
   refine hK30 _ ?_
   refine vc_seq fun K31 hK31 => ?_
   refine vc_seq fun K32 hK32 => ?_
   refine vc_region ?_
   refine vo_move rfl ?_
   refine vo_stM ?_
   refine vo_assert_yes rfl rfl Tryz.underlying79 inf133 (by kernel_rfl) ?_
   refine vo_stM ?_
   refine vo_move rfl ?_
   refine vo_stM ?_
   refine vo_extract rfl rfl rfl ?_
   refine vo_extract rfl rfl rfl ?_
   refine vo_assign rfl ?_
   refine vo_stM ?_
   refine vo_assign_pv rfl rfl ?_
   refine vo_nil ?_
   refine hK32 _ ?_
   refine vc_seq fun K33 hK33 => ?_
   refine vc_region ?_
   refine vo_move_pv rfl rfl ?_
   refine vo_move_pv rfl rfl ?_
   refine vo_guard_off rfl rfl rfl rfl rfl ?_
   refine vo_guard_off rfl rfl rfl rfl rfl ?_
   refine vo_pick_t rfl rfl ?_
   refine vo_nil ?_
   refine hK33 _ ?_
   refine vc_cond_t rfl ?_
   refine vc_seq fun K34 hK34 => ?_
   refine vc_region ?_
   refine vo_move rfl ?_
   refine vo_stM ?_
   refine vo_move_pv rfl rfl ?_
   refine vo_fieldAddr_ptr rfl rfl Tryz.underlying57 rfl inf3 (by rw [sz3]; decide) ?_
   try simp only [Nat.zero_add]
   refine vo_load_var rfl rfl rfl Tryz.underlying3 rfl rfl ?_
   refine vo_invoke [] rfl (mth133_byObject _ _ _ _) Tryz.func186 rfl rfl rfl rfl rfl rfl rfl (fixedByObject_sat (o := _) (a := ⟨_, _, _⟩)) ?_
   rintro _ _ ⟨rfl, rfl⟩
   refine ⟨Nat.le_of_ble_eq_true rfl, ⟨rfl, rfl, rfl, rfl⟩, .inl rfl, ?_⟩
   refine vo_stM ?_
   refine vo_store_varS rfl rfl rfl inf49 sz49 rfl ?_
   refine vo_stM ?_
   refine vo_nil ?_
   refine hK34 _ ?_
   refine vc_ret ?_
   change retQ _ _ _ _ _
   refine retQ_sel [] (srows := []) (.inr rfl) hC rfl rfl rfl rfl rfl rfl rfl ?_
   refine ⟨fr_eq (?_ : FoundM.mk _ _ _ _ = _), rfl⟩
   rw [getAttrM_yes hc1]
   unfold getR bindM none0
   repeat' split
   all_goals first | rfl | (exfalso; omega) | (simp only [FoundM.mk.injEq]; omega)
  ·skip
   refine vo_assign rfl ?_
   refine vo_stM ?_
   refine vo_nil ?_
   refine hK6 _ ?_
   refine vc_seq fun K35 hK35 => ?_
   refine vc_region ?_
   refine vo_fieldAddr_ptr rfl rfl Tryz.underlying57 rfl inf55 (by rw [sz55]; decide) ?_
   try simp only [Nat.zero_add]
   refine vo_load_var rfl rfl rfl Tryz.underlying55 rfl rfl ?_
   refine vo_move_pv rfl rfl ?_
   refine vo_call0 Tryz.func56 rfl rfl rfl rfl (pairPlace_sat (by omega)) ?_
   rintro _ _ ⟨rfl, rfl⟩
   refine ⟨rfl, rfl, .inl rfl, ?_⟩
   refine vo_stM ?_
   refine vo_assign_pv rfl rfl ?_
   refine vo_nil ?_
   refine hK35 _ ?_
   refine vc_seq fun K36 hK36 => ?_
   refine vc_seq fun K37 hK37 => ?_
   refine vc_region ?_
   refine vo_move rfl ?_
   refine vo_stM ?_
   refine vo_assert_no rfl rfl Tryz.underlying79 inf134 (by kernel_rfl) (fun w => by kernel_rfl) ?_
   refine vo_stM ?_
   refine vo_move rfl ?_
   refine vo_stM ?_
   refine vo_extract rfl rfl rfl ?_
   refine vo_extract rfl rfl rfl ?_
   refine vo_assign_pv rfl rfl ?_
   refine vo_assign_pv rfl rfl ?_
   refine vo_nil ?_
   refine hK37 _ ?_
   refine vc_seq fun K38 hK38 => ?_
   refine vc_region ?_
   refine vo_move_pv rfl rfl ?_
   refine vo_move_pv rfl rfl ?_
   refine vo_guard_on rfl rfl rfl ?_
   refine vo_move_pv rfl rfl ?_
   refine vo_guard_on rfl rfl rfl ?_
   refine vo_binI rfl rfl rfl rfl trivial ?_
   refine vo_pick_f rfl rfl ?_
   refine vo_nil ?_
   refine hK38 _ ?_
   refine vc_cond rfl (fun hc5 => ?_) (fun hc5 => ?_)
   ·try simp only [zq0, zq1, zq2, zq3, zq4, zq5, zq6, zq7, zq8, zq9, zqa, zqb, zqc, zqd, zqe, zqf] at hc5
    refine vc_seq fun K39 hK39 => ?_
    refine vc_region ?_
    refine vo_move rfl ?_
    refine vo_stM ?_
    refine vo_move_pv rfl rfl ?_
    refine vo_fieldAddr_ptr rfl rfl Tryz.underlying57 rfl inf3 (by rw [sz3]; decide) ?_
    try simp only [Nat.zero_add]
    refine vo_load_var rfl rfl rfl Tryz.underlying3 rfl rfl ?_
    refine vo_invoke [] rfl (mth134_byObject _ _ _ _) Tryz.func190 rfl rfl rfl rfl rfl rfl rfl (classByObject_sat (o := _) (a := ⟨_, _, _⟩)) ?_
    rintro _ _ ⟨rfl, rfl⟩
    refine ⟨Nat.le_of_ble_eq_true rfl, ⟨rfl, rfl, rfl, rfl⟩, .inl rfl, ?_⟩
    refine vo_stM ?_
    refine vo_store_varS rfl rfl rfl inf49 sz49 rfl ?_
    refine vo_stM ?_
    refine vo_nil ?_
    refine hK39 _ ?_
    refine vc_ret ?_
    change retQ _ _ _ _ _
    refine retQ_sel [] (srows := []) (.inr rfl) hC rfl rfl rfl rfl rfl rfl rfl ?_
    refine ⟨fr_eq (?_ : FoundM.mk _ _ _ _ = _), rfl⟩
    rw [getAttrM_yes hc1]
    unfold getR bindM none0
    repeat' split
    all_goals first | rfl | (exfalso; omega) | (simp only [FoundM.mk.injEq]; omega)
   ·try simp only [zq0, zq1, zq2, zq3, zq4, zq5, zq6, zq7, zq8, zq9, zqa, zqb, zqc, zqd, zqe, zqf] at hc5
    refine vc_skip ?_
    refine hK36 _ ?_
    refine vc_seq fun K40 hK40 => ?_
    refine vc_region ?_
    refine vo_fieldAddr_ptr rfl rfl Tryz.underlying57 rfl inf55 (by rw [sz55]; decide) ?_
    try simp only [Nat.zero_add]
    refine vo_load_var rfl rfl rfl Tryz.underlying55 rfl rfl ?_
    refine vo_move_pv rfl rfl ?_
    refine vo_index_pv (.agg [(.int .i64 0), (.int .i64 0)]) rfl rfl rfl E55.und inf102 sz102 sd sd ?_
    simp only [Int.toNat_natCast, Int.toNat_zero, getD_ints, getD_intss, getD_bools, getD_bytes, PV.cells, getD_ops, getD_pairs, getD_insts, getD_attrs, getD_attrss, getD_objs, getD_ordP]
    refine vo_fieldAddr_adr rfl rfl Tryz.underlying102 rfl inf3 (by rw [sz3]; decide) ?_
    refine vo_load_adr rfl rfl Tryz.underlying3 rfl ?_
    refine vo_move_pv rfl rfl ?_
    refine vo_build S49 rfl rfl rfl ?_
    refine vo_stM ?_
    refine vo_store_varS rfl rfl rfl inf49 sz49 rfl ?_
    refine vo_stM ?_
    refine vo_nil ?_
    refine hK40 _ ?_
    refine vc_ret ?_
    change retQ _ _ _ _ _
    refine retQ_sel [] (srows := []) (.inr rfl) hC rfl rfl rfl rfl rfl rfl rfl ?_
    refine ⟨fr_eq (?_ : FoundM.mk _ _ _ _ = _), rfl⟩
    rw [getAttrM_yes hc1]
    unfold getR bindM none0
    repeat' split
    all_goals first | rfl | (exfalso; omega) | (simp only [FoundM.mk.injEq]; omega)

end Go.Vl

namespace Go.Vl
set_option linter.unusedVariables false
set_option linter.unusedSimpArgs false
open Go.Proofs

theorem bind_sat {ow : Int} {a : AttrM} {obj : Int} {c : Int}   : SatAt Tryz.prog 85 [i64 ow, .pv false (attrP a), i64 obj, i64 c] [] (fun res rows => res = [.pv true (foundP (bindM ow a obj c))] ∧ rows = []) := by
 refine sat_entry_G (rs := [(8, some (49, 4))]) Tryz.func85 rfl rfl (Nat.le_of_ble_eq_true rfl) (Nat.le_of_ble_eq_true rfl) (resTs1 ⟨_, _, Tryz.underlying49, rfl, inf49, sz49⟩) fun C hC => ?_
 rw [Tryz.ntmps85]
 replace hC : C.nb = 0 := hC
 refine vc_seq fun K1 hK1 => ?_
 refine vc_region ?_
 refine vo_box rfl rfl ?_
 refine vo_stM ?_
 refine vo_alloc Z49 rfl ?_
 refine vo_stM ?_
 refine vo_nil ?_
 refine hK1 _ ?_
 refine vc_seq fun K2 hK2 => ?_
 refine vc_region ?_
 refine vo_move_pv rfl rfl ?_
 refine vo_fieldAddr_ptr rfl rfl Tryz.underlying52 rfl inf3 (by rw [sz3]; decide) ?_
 try simp only [Nat.zero_add]
 refine vo_load_var rfl rfl rfl Tryz.underlying3 rfl rfl ?_
 refine vo_build S49 rfl rfl rfl ?_
 refine vo_stM ?_
 refine vo_alloc Z49 rfl ?_
 refine vo_stM ?_
 refine vo_store_varS rfl rfl rfl inf49 sz49 rfl ?_
 refine vo_stM ?_
 refine vo_nil ?_
 refine hK2 _ ?_
 refine vc_seq fun K3 hK3 => ?_
 refine vc_seq fun K4 hK4 => ?_
 refine vc_region ?_
 refine vo_fieldAddr_ptr rfl rfl Tryz.underlying52 rfl inf3 (by rw [sz3]; decide) ?_
 try simp only [Nat.zero_add]
 refine vo_load_var rfl rfl rfl Tryz.underlying3 rfl rfl ?_
 refine vo_nil ?_
 refine hK4 _ ?_
 refine vc_block ?_
 refine vc_seq fun K5 hK5 => ?_
 refine vc_region ?_
 refine vo_binI rfl rfl rfl rfl trivial ?_
 refine vo_assign_pv rfl rfl ?_
 refine vo_nil ?_
 refine hK5 _ ?_
 refine vc_cond rfl (fun hc1 => ?_) (fun hc1 => ?_)
 ·try simp only [zq0, zq1, zq2, zq3, zq4, zq5, zq6, zq7, zq8, zq9, zqa, zqb, zqc, zqd, zqe, zqf] at hc1
  refine vc_region ?_
  refine vo_move_pv rfl rfl ?_
  refine vo_fieldAddr_ptr rfl rfl Tryz.underlying49 rfl inf3 (by rw [sz3]; decide) ?_
  try simp only [Nat.zero_add]
  refine vo_store_var rfl rfl rfl rfl inf3 sz3 rfl ?_
  refine vo_stM ?_
  refine vo_nil ?_
  refine hK3 _ ?_
  refine vc_seq fun K6 hK6 => ?_
  refine vc_seq fun K7 hK7 => ?_
  refine vc_region ?_
  refine vo_fieldAddr_ptr rfl rfl Tryz.underlying52 rfl inf3 (by rw [sz3]; decide) ?_
  try simp only [Nat.zero_add]
  refine vo_load_var rfl rfl rfl Tryz.underlying3 rfl rfl ?_
  refine vo_binI rfl rfl rfl rfl trivial ?_
  refine vo_move_pv rfl rfl ?_
  refine vo_split 36 rfl (fun hg2 => ?_) (fun hg2 => ?_)
  ·try simp only [zq0, zq1, zq2, zq3, zq4, zq5, zq6, zq7, zq8, zq9, zqa, zqb, zqc, zqd, zqe, zqf] at hg2
   refine vo_guard_on rfl rfl rfl ?_
   refine vo_move_pv rfl rfl ?_
   refine vo_guard_on rfl rfl rfl ?_
   refine vo_binI rfl rfl rfl rfl trivial ?_
   refine vo_pick_t rfl rfl ?_
   refine vo_nil ?_
   refine hK7 _ ?_
   refine vc_cond rfl (fun hc3 => ?_) (fun hc3 => ?_)
   ·try simp only [zq0, zq1, zq2, zq3, zq4, zq5, zq6, zq7, zq8, zq9, zqa, zqb, zqc, zqd, zqe, zqf] at hc3
    refine vc_region ?_
    refine vo_fieldAddr_ptr rfl rfl Tryz.underlying49 rfl inf3 (by rw [sz3]; decide) ?_
    try simp only [Nat.zero_add]
    refine vo_store_var rfl rfl rfl rfl inf3 sz3 rfl ?_
    refine vo_stM ?_
    refine vo_nil ?_
    refine hK6 _ ?_
    refine vc_seq fun K8 hK8 => ?_
    refine vc_region ?_
    refine vo_load_varS rfl rfl rfl Tryz.underlying49 rfl inf49 sz49 rfl rfl ?_
    refine vo_store_varS rfl rfl rfl inf49 sz49 rfl ?_
    refine vo_stM ?_
    refine vo_nil ?_
    refine hK8 _ ?_
    refine vc_ret ?_
    change retQ _ _ _ _ _
    refine retQ_sel [] (srows := []) (.inr rfl) hC rfl rfl rfl rfl rfl rfl rfl ?_
    refine ⟨fr_eq (?_ : FoundM.mk _ _ _ _ = _), rfl⟩
    unfold bindM
    repeat' split
    all_goals first | rfl | (exfalso; omega)
   ·try simp only [zq0, zq1, zq2, zq3, zq4, zq5, zq6, zq7, zq8, zq9, zqa, zqb, zqc, zqd, zqe, zqf] at hc3
    refine vc_skip ?_
    refine hK6 _ ?_
    refine vc_seq fun K9 hK9 => ?_
    refine vc_region ?_
    refine vo_load_varS rfl rfl rfl Tryz.underlying49 rfl inf49 sz49 rfl rfl ?_
    refine vo_store_varS rfl rfl rfl inf49 sz49 rfl ?_
    refine vo_stM ?_
    refine vo_nil ?_
    refine hK9 _ ?_
    refine vc_ret ?_
    change retQ _ _ _ _ _
    refine retQ_sel [] (srows := []) (.inr rfl) hC rfl rfl rfl rfl rfl rfl rfl ?_
    refine ⟨fr_eq (?_ : FoundM.mk _ _ _ _ = _), rfl⟩
    unfold bindM
    repeat' split
    all_goals first | rfl | (exfalso; omega)
  ·try simp only [zq0, zq1, zq2, zq3, zq4, zq5, zq6, zq7, zq8, zq9, zqa, zqb, zqc, zqd, zqe, zqf] at hg2
   refine vo_guard_off rfl rfl rfl rfl rfl ?_
   refine vo_guard_off rfl rfl rfl rfl rfl ?_
   refine vo_pick_f rfl rfl ?_
   refine vo_nil ?_
   refine hK7 _ ?_
   refine vc_cond_f rfl ?_
   refine vc_skip ?_
   refine hK6 _ ?_
   refine vc_seq fun K10 hK10 => ?_
   refine vc_region ?_
   refine vo_load_varS rfl rfl rfl Tryz.underlying49 rfl inf49 sz49 rfl rfl ?_
   refine vo_store_varS rfl rfl rfl inf49 sz49 rfl ?_
   refine vo_stM ?_
   refine vo_nil ?_
   refine hK10 _ ?_
   refine vc_ret ?_
   change retQ _ _ _ _ _
   refine retQ_sel [] (srows := []) (.inr rfl) hC rfl rfl rfl rfl rfl rfl rfl ?_
   refine ⟨fr_eq (?_ : FoundM.mk _ _ _ _ = _), rfl⟩
   unfold bindM
   repeat' split
   all_goals first | rfl | (exfalso; omega)
 ·try simp only [zq0, zq1, zq2, zq3, zq4, zq5, zq6, zq7, zq8, zq9, zqa, zqb, zqc, zqd, zqe, zqf] at hc1
  refine vc_seq fun K11 hK11 => ?_
  refine vc_region ?_
  refine vo_binI rfl rfl rfl rfl trivial ?_
  refine vo_assign_pv rfl rfl ?_
  refine vo_nil ?_
  refine hK11 _ ?_
  refine vc_cond rfl (fun hc4 => ?_) (fun hc4 => ?_)
  ·try simp only [zq0, zq1, zq2, zq3, zq4, zq5, zq6, zq7, zq8, zq9, zqa, zqb, zqc, zqd, zqe, zqf] at hc4
   refine vc_seq fun K12 hK12 => ?_
   refine vc_region ?_
   refine vo_fieldAddr_ptr rfl rfl Tryz.underlying49 rfl inf3 (by rw [sz3]; decide) ?_
   try simp only [Nat.zero_add]
   refine vo_store_var rfl rfl rfl rfl inf3 sz3 rfl ?_
   refine vo_stM ?_
   refine vo_nil ?_
   refine hK12 _ ?_
   refine vc_region ?_
   refine vo_move_pv rfl rfl ?_
   refine vo_fieldAddr_ptr rfl rfl Tryz.underlying49 rfl inf3 (by rw [sz3]; decide) ?_
   try simp only [Nat.zero_add]
   refine vo_store_var rfl rfl rfl rfl inf3 sz3 rfl ?_
   refine vo_stM ?_
   refine vo_nil ?_
   refine hK3 _ ?_
   refine vc_seq fun K13 hK13 => ?_
   refine vc_seq fun K14 hK14 => ?_
   refine vc_region ?_
   refine vo_fieldAddr_ptr rfl rfl Tryz.underlying52 rfl inf3 (by rw [sz3]; decide) ?_
   try simp only [Nat.zero_add]
   refine vo_load_var rfl rfl rfl Tryz.underlying3 rfl rfl ?_
   refine vo_binI rfl rfl rfl rfl trivial ?_
   refine vo_move_pv rfl rfl ?_
   refine vo_split 36 rfl (fun hg5 => ?_) (fun hg5 => ?_)
   ·try simp only [zq0, zq1, zq2, zq3, zq4, zq5, zq6, zq7, zq8, zq9, zqa, zqb, zqc, zqd, zqe, zqf] at hg5
    refine vo_guard_on rfl rfl rfl ?_
    refine vo_move_pv rfl rfl ?_
    refine vo_guard_on rfl rfl rfl ?_
    refine vo_binI rfl rfl rfl rfl trivial ?_
    refine vo_pick_t rfl rfl ?_
    refine vo_nil ?_
    refine hK14 _ ?_
    refine vc_cond rfl (fun hc6 => ?_) (fun hc6 => ?_)
    ·try simp only [zq0, zq1, zq2, zq3, zq4, zq5, zq6, zq7, zq8, zq9, zqa, zqb, zqc, zqd, zqe, zqf] at hc6
     refine vc_region ?_
     refine vo_fieldAddr_ptr rfl rfl Tryz.underlying49 rfl inf3 (by rw [sz3]; decide) ?_
     try simp only [Nat.zero_add]
     refine vo_store_var rfl rfl rfl rfl inf3 sz3 rfl ?_
     refine vo_stM ?_
     refine vo_nil ?_
     refine hK13 _ ?_
     refine vc_seq fun K15 hK15 => ?_
     refine vc_region ?_
     refine vo_load_varS rfl rfl rfl Tryz.underlying49 rfl inf49 sz49 rfl rfl ?_
     refine vo_store_varS rfl rfl rfl inf49 sz49 rfl ?_
     refine vo_stM ?_
     refine vo_nil ?_
     refine hK15 _ ?_
     refine vc_ret ?_
     change retQ _ _ _ _ _
     refine retQ_sel [] (srows := []) (.inr rfl) hC rfl rfl rfl rfl rfl rfl rfl ?_
     refine ⟨fr_eq (?_ : FoundM.mk _ _ _ _ = _), rfl⟩
     unfold bindM
     repeat' split
     all_goals first | rfl | (exfalso; omega)
    ·try simp only [zq0, zq1, zq2, zq3, zq4, zq5, zq6, zq7, zq8, zq9, zqa, zqb, zqc, zqd, zqe, zqf] at hc6
     refine vc_skip ?_
     refine hK13 _ ?_
     refine vc_seq fun K16 hK16 => ?_
     refine vc_region ?_
     refine vo_load_varS rfl rfl rfl Tryz.underlying49 rfl inf49 sz49 rfl rfl ?_
     refine vo_store_varS rfl rfl rfl inf49 sz49 rfl ?_
     refine vo_stM ?_
     refine vo_nil ?_
     refine hK16 _ ?_
     refine vc_ret ?_
     change retQ _ _ _ _ _
     refine retQ_sel [] (srows := []) (.inr rfl) hC rfl rfl rfl rfl rfl rfl rfl ?_
     refine ⟨fr_eq (?_ : FoundM.mk _ _ _ _ = _), rfl⟩
     unfold bindM
     repeat' split
     all_goals first | rfl | (exfalso; omega)
   ·try simp only [zq0, zq1, zq2, zq3, zq4, zq5, zq6, zq7, zq8, zq9, zqa, zqb, zqc, zqd, zqe, zqf] at hg5
    refine vo_guard_off rfl rfl rfl rfl rfl ?_
    refine vo_guard_off rfl rfl rfl rfl rfl ?_
    refine vo_pick_f rfl rfl ?_
    refine vo_nil ?_
    refine hK14 _ ?_
    refine vc_cond_f rfl ?_
    refine vc_skip ?_
    refine hK13 _ ?_
    refine vc_seq fun K17 hK17 => ?_
    refine vc_region ?_
    refine vo_load_varS rfl rfl rfl Tryz.underlying49 rfl inf49 sz49 rfl rfl ?_
    refine vo_store_varS rfl rfl rfl inf49 sz49 rfl ?_
    refine vo_stM ?_
    refine vo_nil ?_
    refine hK17 _ ?_
    refine vc_ret ?_
    change retQ _ _ _ _ _
    refine retQ_sel [] (srows := []) (.inr rfl) hC rfl rfl rfl rfl rfl rfl rfl ?_
    refine ⟨fr_eq (?_ : FoundM.mk _ _ _ _ = _), rfl⟩
    unfold bindM
    repeat' split
    all_goals first | rfl | (exfalso; omega)
  ·try simp only [zq0, zq1, zq2, zq3, zq4, zq5, zq6, zq7, zq8, zq9, zqa, zqb, zqc, zqd, zqe, zqf] at hc4
   refine vc_seq fun K18 hK18 => ?_
   refine vc_seq fun K19 hK19 => ?_
   refine vc_region ?_
   refine vo_binI rfl rfl rfl rfl trivial ?_
   refine vo_assign_pv rfl rfl ?_
   refine vo_nil ?_
   refine hK19 _ ?_
   refine vc_cond rfl (fun hc7 => ?_) (fun hc7 => ?_)
   ·try simp only [zq0, zq1, zq2, zq3, zq4, zq5, zq6, zq7, zq8, zq9, zqa, zqb, zqc, zqd, zqe, zqf] at hc7
    refine vc_skip ?_
    refine hK18 _ ?_
    refine vc_cond rfl (fun hc8 => ?_) (fun hc8 => ?_)
    ·try simp only [zq0, zq1, zq2, zq3, zq4, zq5, zq6, zq7, zq8, zq9, zqa, zqb, zqc, zqd, zqe, zqf] at hc8
     refine vc_seq fun K20 hK20 => ?_
     refine vc_region ?_
     refine vo_move_pv rfl rfl ?_
     refine vo_binI rfl rfl rfl rfl trivial ?_
     refine vo_nil ?_
     refine hK20 _ ?_
     refine vc_cond rfl (fun hc9 => ?_) (fun hc9 => ?_)
     ·try simp only [zq0, zq1, zq2, zq3, zq4, zq5, zq6, zq7, zq8, zq9, zqa, zqb, zqc, zqd, zqe, zqf] at hc9
      refine vc_seq fun K21 hK21 => ?_
      refine vc_region ?_
      refine vo_fieldAddr_ptr rfl rfl Tryz.underlying49 rfl inf3 (by rw [sz3]; decide) ?_
      try simp only [Nat.zero_add]
      refine vo_store_var rfl rfl rfl rfl inf3 sz3 rfl ?_
      refine vo_stM ?_
      refine vo_nil ?_
      refine hK21 _ ?_
      refine vc_region ?_
      refine vo_move_pv rfl rfl ?_
      refine vo_fieldAddr_ptr rfl rfl Tryz.underlying49 rfl inf3 (by rw [sz3]; decide) ?_
      try simp only [Nat.zero_add]
      refine vo_store_var rfl rfl rfl rfl inf3 sz3 rfl ?_
      refine vo_stM ?_
      refine vo_nil ?_
      refine hK3 _ ?_
      refine vc_seq fun K22 hK22 => ?_
      refine vc_seq fun K23 hK23 => ?_
      refine vc_region ?_
      refine vo_fieldAddr_ptr rfl rfl Tryz.underlying52 rfl inf3 (by rw [sz3]; decide) ?_
      try simp only [Nat.zero_add]
      refine vo_load_var rfl rfl rfl Tryz.underlying3 rfl rfl ?_
      refine vo_binI rfl rfl rfl rfl trivial ?_
      refine vo_move_pv rfl rfl ?_
      refine vo_split 36 rfl (fun hg10 => ?_) (fun hg10 => ?_)
      ·try simp only [zq0, zq1, zq2, zq3, zq4, zq5, zq6, zq7, zq8, zq9, zqa, zqb, zqc, zqd, zqe, zqf] at hg10
       refine vo_guard_on rfl rfl rfl ?_
       refine vo_move_pv rfl rfl ?_
       refine vo_guard_on rfl rfl rfl ?_
       refine vo_binI rfl rfl rfl rfl trivial ?_
       refine vo_pick_t rfl rfl ?_
       refine vo_nil ?_
       refine hK23 _ ?_
       refine vc_cond rfl (fun hc11 => ?_) (fun hc11 => ?_)
       ·try simp only [zq0, zq1, zq2, zq3, zq4, zq5, zq6, zq7, zq8, zq9, zqa, zqb, zqc, zqd, zqe, zqf] at hc11
        refine vc_region ?_
        refine vo_fieldAddr_ptr rfl rfl Tryz.underlying49 rfl inf3 (by rw [sz3]; decide) ?_
        try simp only [Nat.zero_add]
        refine vo_store_var rfl rfl rfl rfl inf3 sz3 rfl ?_
        refine vo_stM ?_
        refine vo_nil ?_
        refine hK22 _ ?_
        refine vc_seq fun K24 hK24 => ?_
        refine vc_region ?_
        refine vo_load_varS rfl rfl rfl Tryz.underlying49 rfl inf49 sz49 rfl rfl ?_
        refine vo_store_varS rfl rfl rfl inf49 sz49 rfl ?_
        refine vo_stM ?_
        refine vo_nil ?_
        refine hK24 _ ?_
        refine vc_ret ?_
        change retQ _ _ _ _ _
        refine retQ_sel [] (srows := []) (.inr rfl) hC rfl rfl rfl rfl rfl rfl rfl ?_
        refine ⟨fr_eq (?_ : FoundM.mk _ _ _ _ = _), rfl⟩
        unfold bindM
        repeat' split
        all_goals first | rfl | (exfalso; omega)
       ·try simp only [zq0, zq1, zq2, zq3, zq4, zq5, zq6, zq7, zq8, zq9, zqa, zqb, zqc, zqd, zqe, zqf] at hc11
        refine vc_skip ?_
        refine hK22 _ ?_
        refine vc_seq fun K25 hK25 => ?_
        refine vc_region ?_
        refine vo_load_varS rfl rfl rfl Tryz.underlying49 rfl inf49 sz49 rfl rfl ?_
        refine vo_store_varS rfl rfl rfl inf49 sz49 rfl ?_
        refine vo_stM ?_
        refine vo_nil ?_
        refine hK25 _ ?_
        refine vc_ret ?_
        change retQ _ _ _ _ _
        refine retQ_sel [] (srows := []) (.inr rfl) hC rfl rfl rfl rfl rfl rfl rfl ?_
        refine ⟨fr_eq (?_ : FoundM.mk _ _ _ _ = _), rfl⟩
        unfold bindM
        repeat' split
        all_goals first | rfl | (exfalso; omega)
      ·try simp only [zq0, zq1, zq2, zq3, zq4, zq5, zq6, zq7, zq8, zq9, zqa, zqb, zqc, zqd, zqe, zqf] at hg10
       refine vo_guard_off rfl rfl rfl rfl rfl ?_
       refine vo_guard_off rfl rfl rfl rfl rfl ?_
       refine vo_pick_f rfl rfl ?_
       refine vo_nil ?_
       refine hK23 _ ?_
       refine vc_cond_f rfl ?_
       refine vc_skip ?_
       refine hK22 _ ?_
       refine vc_seq fun K26 hK26 => ?_
       refine vc_region ?_
       refine vo_load_varS rfl rfl rfl Tryz.underlying49 rfl inf49 sz49 rfl rfl ?_
       refine vo_store_varS rfl rfl rfl inf49 sz49 rfl ?_
       refine vo_stM ?_
       refine vo_nil ?_
       refine hK26 _ ?_
       refine vc_ret ?_
       change retQ _ _ _ _ _
       refine retQ_sel [] (srows := []) (.inr rfl) hC rfl rfl rfl rfl rfl rfl rfl ?_
       refine ⟨fr_eq (?_ : FoundM.mk _ _ _ _ = _), rfl⟩
       unfold bindM
       repeat' split
       all_goals first | rfl | (exfalso; omega)
     ·try simp only [zq0, zq1, zq2, zq3, zq4, zq5, zq6, zq7, zq8, zq9, zqa, zqb, zqc, zqd, zqe, zqf] at hc9
      refine vc_skip ?_
      refine hK3 _ ?_
      refine vc_seq fun K27 hK27 => ?_
      refine vc_seq fun K28 hK28 => ?_
      refine vc_region ?_
      refine vo_fieldAddr_ptr rfl rfl Tryz.underlying52 rfl inf3 (by rw [sz3]; decide) ?_
      try simp only [Nat.zero_add]
      refine vo_load_var rfl rfl rfl Tryz.underlying3 rfl rfl ?_
      refine vo_binI rfl rfl rfl rfl trivial ?_
      refine vo_move_pv rfl rfl ?_
      refine vo_split 36 rfl (fun hg12 => ?_) (fun hg12 => ?_)
      ·try simp only [zq0, zq1, zq2, zq3, zq4, zq5, zq6, zq7, zq8, zq9, zqa, zqb, zqc, zqd, zqe, zqf] at hg12
       refine vo_guard_on rfl rfl rfl ?_
       refine vo_move_pv rfl rfl ?_
       refine vo_guard_on rfl rfl rfl ?_
       refine vo_binI rfl rfl rfl rfl trivial ?_
       refine vo_pick_t rfl rfl ?_
       refine vo_nil ?_
       refine hK28 _ ?_
       refine vc_cond rfl (fun hc13 => ?_) (fun hc13 => ?_)
       ·try simp only [zq0, zq1, zq2, zq3, zq4, zq5, zq6, zq7, zq8, zq9, zqa, zqb, zqc, zqd, zqe, zqf] at hc13
        refine vc_region ?_
        refine vo_fieldAddr_ptr rfl rfl Tryz.underlying49 rfl inf3 (by rw [sz3]; decide) ?_
        try simp only [Nat.zero_add]
        refine vo_store_var rfl rfl rfl rfl inf3 sz3 rfl ?_
        refine vo_stM ?_
        refine vo_nil ?_
        refine hK27 _ ?_
        refine vc_seq fun K29 hK29 => ?_
        refine vc_region ?_
        refine vo_load_varS rfl rfl rfl Tryz.underlying49 rfl inf49 sz49 rfl rfl ?_
        refine vo_store_varS rfl rfl rfl inf49 sz49 rfl ?_
        refine vo_stM ?_
        refine vo_nil ?_
        refine hK29 _ ?_
        refine vc_ret ?_
        change retQ _ _ _ _ _
        refine retQ_sel [] (srows := []) (.inr rfl) hC rfl rfl rfl rfl rfl rfl rfl ?_
        refine ⟨fr_eq (?_ : FoundM.mk _ _ _ _ = _), rfl⟩
        unfold bindM
        repeat' split
        all_goals first | rfl | (exfalso; omega)
       ·try simp only [zq0, zq1, zq2, zq3, zq4, zq5, zq6, zq7, zq8, zq9, zqa, zqb, zqc, zqd, zqe, zqf] at hc13
        refine vc_skip ?_
        refine hK27 _ ?_
        refine vc_seq fun K30 hK30 => ?_
        refine vc_region ?_
        refine vo_load_varS rfl rfl rfl Tryz.underlying49 rfl inf49 sz49 rfl rfl ?_
        refine vo_store_varS rfl rfl rfl inf49 sz49 rfl ?_
        refine vo_stM ?_
        refine vo_nil ?_
        refine hK30 _ ?_
        refine vc_ret ?_
        change retQ _ _ _ _ _
        refine retQ_sel [] (srows := []) (.inr rfl) hC rfl rfl rfl rfl rfl rfl rfl ?_
        refine ⟨fr_eq (?_ : FoundM.mk _ _ _ _ = _), rfl⟩
        unfold bindM
        repeat' split
        all_goals first | rfl | (exfalso; omega)
      ·try simp only [zq0, zq1, zq2, zq3, zq4, zq5, zq6, zq7, zq8, zq9, zqa, zqb, zqc, zqd, zqe, zqf] at hg12
       refine vo_guard_off rfl rfl rfl rfl rfl ?_
       refine vo_guard_off rfl rfl rfl rfl rfl ?_
       refine vo_pick_f rfl rfl ?_
       refine vo_nil ?_
       refine hK28 _ ?_
       refine vc_cond_f rfl ?_
       refine vc_skip ?_
       refine hK27 _ ?_
       refine vc_seq fun K31 hK31 => ?_
       refine vc_region ?_
       refine vo_load_varS rfl rfl rfl Tryz.underlying49 rfl inf49 sz49 rfl rfl ?_
       refine vo_store_varS rfl rfl rfl inf49 sz49 rfl ?_
       refine vo_stM ?_
       refine vo_nil ?_
       refine hK31 _ ?_
       refine vc_ret ?_
       change retQ _ _ _ _ _
       refine retQ_sel [] (srows := []) (.inr rfl) hC rfl rfl rfl rfl rfl rfl rfl ?_
       refine ⟨fr_eq (?_ : FoundM.mk _ _ _ _ = _), rfl⟩
       unfold bindM
       repeat' split
       all_goals first | rfl | (exfalso; omega)
    ·try simp only [zq0, zq1, zq2, zq3, zq4, zq5, zq6, zq7, zq8, zq9, zqa, zqb, zqc, zqd, zqe, zqf] at hc8
     refine vc_skip ?_
     refine hK3 _ ?_
     refine vc_seq fun K32 hK32 => ?_
     refine vc_seq fun K33 hK33 => ?_
     refine vc_region ?_
     refine vo_fieldAddr_ptr rfl rfl Tryz.underlying52 rfl inf3 (by rw [sz3]; decide) ?_
     try simp only [Nat.zero_add]
     refine vo_load_var rfl rfl rfl Tryz.underlying3 rfl rfl ?_
     refine vo_binI rfl rfl rfl rfl trivial ?_
     refine vo_move_pv rfl rfl ?_
     refine vo_split 36 rfl (fun hg14 => ?_) (fun hg14 => ?_)
     ·try simp only [zq0, zq1, zq2, zq3, zq4, zq5, zq6, zq7, zq8, zq9, zqa, zqb, zqc, zqd, zqe, zqf] at hg14
      refine vo_guard_on rfl rfl rfl ?_
      refine vo_move_pv rfl rfl ?_
      refine vo_guard_on rfl rfl rfl ?_
      refine vo_binI rfl rfl rfl rfl trivial ?_
      refine vo_pick_t rfl rfl ?_
      refine vo_nil ?_
      refine hK33 _ ?_
      refine vc_cond rfl (fun hc15 => ?_) (fun hc15 => ?_)
      ·try simp only [zq0, zq1, zq2, zq3, zq4, zq5, zq6, zq7, zq8, zq9, zqa, zqb, zqc, zqd, zqe, zqf] at hc15
       refine vc_region ?_
       refine vo_fieldAddr_ptr rfl rfl Tryz.underlying49 rfl inf3 (by rw [sz3]; decide) ?_
       try simp only [Nat.zero_add]
       refine vo_store_var rfl rfl rfl rfl inf3 sz3 rfl ?_
       refine vo_stM ?_
       refine vo_nil ?_
       refine hK32 _ ?_
       refine vc_seq fun K34 hK34 => ?_
       refine vc_region ?_
       refine vo_load_varS rfl rfl rfl Tryz.underlying49 rfl inf49 sz49 rfl rfl ?_
       refine vo_store_varS rfl rfl rfl inf49 sz49 rfl ?_
       refine vo_stM ?_
       refine vo_nil ?_
       refine hK34 _ ?_
       refine vc_ret ?_
       change retQ _ _ _ _ _
       refine retQ_sel [] (srows := []) (.inr rfl) hC rfl rfl rfl rfl rfl rfl rfl ?_
       refine ⟨fr_eq (?_ : FoundM.mk _ _ _ _ = _), rfl⟩
       unfold bindM
       repeat' split
       all_goals first | rfl | (exfalso; omega)
      ·try simp only [zq0, zq1, zq2, zq3, zq4, zq5, zq6, zq7, zq8, zq9, zqa, zqb, zqc, zqd, zqe, zqf] at hc15
       refine vc_skip ?_
       refine hK32 _ ?_
       refine vc_seq fun K35 hK35 => ?_
       refine vc_region ?_
       refine vo_load_varS rfl rfl rfl Tryz.underlying49 rfl inf49 sz49 rfl rfl ?_
       refine vo_store_varS rfl rfl rfl inf49 sz49 rfl ?_
       refine vo_stM ?_
       refine vo_nil ?_
       refine hK35 _ ?_
       refine vc_ret ?_
       change retQ _ _ _ _ _
       refine retQ_sel [] (srows := []) (.inr rfl) hC rfl rfl rfl rfl rfl rfl rfl ?_
       refine ⟨fr_eq (?_ : FoundM.mk _ _ _ _ = _), rfl⟩
       unfold bindM
       repeat' split
       all_goals first | rfl | (exfalso; omega)
     ·try simp only [zq0, zq1, zq2, zq3, zq4, zq5, zq6, zq7, zq8, zq9, zqa, zqb, zqc, zqd, zqe, zqf] at hg14
      refine vo_guard_off rfl rfl rfl rfl rfl ?_
      refine vo_guard_off rfl rfl rfl rfl rfl ?_
      refine vo_pick_f rfl rfl ?_
      refine vo_nil ?_
      refine hK33 _ ?_
      refine vc_cond_f rfl ?_
      refine vc_skip ?_
      refine hK32 _ ?_
      refine vc_seq fun K36 hK36 => ?_
      refine vc_region ?_
      refine vo_load_varS rfl rfl rfl Tryz.underlying49 rfl inf49 sz49 rfl rfl ?_
      refine vo_store_varS rfl rfl rfl inf49 sz49 rfl ?_
      refine vo_stM ?_
      refine vo_nil ?_
      refine hK36 _ ?_
      refine vc_ret ?_
      change retQ _ _ _ _ _
      refine retQ_sel [] (srows := []) (.inr rfl) hC rfl rfl rfl rfl rfl rfl rfl ?_
      refine ⟨fr_eq (?_ : FoundM.mk _ _ _ _ = _), rfl⟩
      unfold bindM
      repeat' split
      all_goals first | rfl | (exfalso; omega)
   ·try simp only [zq0, zq1, zq2, zq3, zq4, zq5, zq6, zq7, zq8, zq9, zqa, zqb, zqc, zqd, zqe, zqf] at hc7
    refine vc_region ?_
    refine vo_binI rfl rfl rfl rfl trivial ?_
    refine vo_assign_pv rfl rfl ?_
    refine vo_nil ?_
    refine hK18 _ ?_
    refine vc_cond rfl (fun hc16 => ?_) (fun hc16 => ?_)
    ·try simp only [zq0, zq1, zq2, zq3, zq4, zq5, zq6, zq7, zq8, zq9, zqa, zqb, zqc, zqd, zqe, zqf] at hc16
     refine vc_seq fun K37 hK37 => ?_
     refine vc_region ?_
     refine vo_move_pv rfl rfl ?_
     refine vo_binI rfl rfl rfl rfl trivial ?_
     refine vo_nil ?_
     refine hK37 _ ?_
     refine vc_cond rfl (fun hc17 => ?_) (fun hc17 => ?_)
     ·try simp only [zq0, zq1, zq2, zq3, zq4, zq5, zq6, zq7, zq8, zq9, zqa, zqb, zqc, zqd, zqe, zqf] at hc17
      refine vc_seq fun K38 hK38 => ?_
      refine vc_region ?_
      refine vo_fieldAddr_ptr rfl rfl Tryz.underlying49 rfl inf3 (by rw [sz3]; decide) ?_
      try simp only [Nat.zero_add]
      refine vo_store_var rfl rfl rfl rfl inf3 sz3 rfl ?_
      refine vo_stM ?_
      refine vo_nil ?_
      refine hK38 _ ?_
      refine vc_region ?_
      refine vo_move_pv rfl rfl ?_
      refine vo_fieldAddr_ptr rfl rfl Tryz.underlying49 rfl inf3 (by rw [sz3]; decide) ?_
      try simp only [Nat.zero_add]
      refine vo_store_var rfl rfl rfl rfl inf3 sz3 rfl ?_
      refine vo_stM ?_
      refine vo_nil ?_
      refine hK3 _ ?_
      refine vc_seq fun K39 hK39 => ?_
      refine vc_seq fun K40 hK40 => ?_
      refine vc_region ?_
      refine vo_fieldAddr_ptr rfl rfl Tryz.underlying52 rfl inf3 (by rw [sz3]; decide) ?_
      try simp only [Nat.zero_add]
      refine vo_load_var rfl rfl rfl Tryz.underlying3 rfl rfl ?_
      refine vo_binI rfl rfl rfl rfl trivial ?_
      refine vo_move_pv rfl rfl ?_
      refine vo_split 36 rfl (fun hg18 => ?_) (fun hg18 => ?_)
      ·try simp only [zq0, zq1, zq2, zq3, zq4, zq5, zq6, zq7, zq8, zq9, zqa, zqb, zqc, zqd, zqe, zqf] at hg18
       refine vo_guard_on rfl rfl rfl ?_
       refine vo_move_pv rfl rfl ?_
       refine vo_guard_on rfl rfl rfl ?_
       refine vo_binI rfl rfl rfl rfl trivial ?_
       refine vo_pick_t rfl rfl ?_
       refine vo_nil ?_
       refine hK40 _ ?_
       refine vc_cond rfl (fun hc19 => ?_) (fun hc19 => ?_)
       ·try simp only [zq0, zq1, zq2, zq3, zq4, zq5, zq6, zq7, zq8, zq9, zqa, zqb, zqc, zqd, zqe, zqf] at hc19
        refine vc_region ?_
        refine vo_fieldAddr_ptr rfl rfl Tryz.underlying49 rfl inf3 (by rw [sz3]; decide) ?_
        try simp only [Nat.zero_add]
        refine vo_store_var rfl rfl rfl rfl inf3 sz3 rfl ?_
        refine vo_stM ?_
        refine vo_nil ?_
        refine hK39 _ ?_
        refine vc_seq fun K41 hK41 => ?_
        refine vc_region ?_
        refine vo_load_varS rfl rfl rfl Tryz.underlying49 rfl inf49 sz49 rfl rfl ?_
        refine vo_store_varS rfl rfl rfl inf49 sz49 rfl ?_
        refine vo_stM ?_
        refine vo_nil ?_
        refine hK41 _ ?_
        refine vc_ret ?_
        change retQ _ _ _ _ _
        refine retQ_sel [] (srows := []) (.inr rfl) hC rfl rfl rfl rfl rfl rfl rfl ?_
        refine ⟨fr_eq (?_ : FoundM.mk _ _ _ _ = _), rfl⟩
        unfold bindM
        repeat' split
        all_goals first | rfl | (exfalso; omega)
       ·try simp only [zq0, zq1, zq2, zq3, zq4, zq5, zq6, zq7, zq8, zq9, zqa, zqb, zqc, zqd, zqe, zqf] at hc19
        refine vc_skip ?_
        refine hK39 _ ?_
        refine vc_seq fun K42 hK42 => ?_
        refine vc_region ?_
        refine vo_load_varS rfl rfl rfl Tryz.underlying49 rfl inf49 sz49 rfl rfl ?_
        refine vo_store_varS rfl rfl rfl inf49 sz49 rfl ?_
        refine vo_stM ?_
        refine vo_nil ?_
        refine hK42 _ ?_
        refine vc_ret ?_
        change retQ _ _ _ _ _
        refine retQ_sel [] (srows := []) (.inr rfl) hC rfl rfl rfl rfl rfl rfl rfl ?_
        refine ⟨fr_eq (?_ : FoundM.mk _ _ _ _ = _), rfl⟩
        unfold bindM
        repeat' split
        all_goals first | rfl | (exfalso; omega)
      ·try simp only [zq0, zq1, zq2, zq3, zq4, zq5, zq6, zq7, zq8, zq9, zqa, zqb, zqc, zqd, zqe, zqf] at hg18
       refine vo_guard_off rfl rfl rfl rfl rfl ?_
       refine vo_guard_off rfl rfl rfl rfl rfl ?_
       refine vo_pick_f rfl rfl ?_
       refine vo_nil ?_
       refine hK40 _ ?_
       refine vc_cond_f rfl ?_
       refine vc_skip ?_
       refine hK39 _ ?_
       refine vc_seq fun K43 hK43 => ?_
       refine vc_region ?_
       refine vo_load_varS rfl rfl rfl Tryz.underlying49 rfl inf49 sz49 rfl rfl ?_
       refine vo_store_varS rfl rfl rfl inf49 sz49 rfl ?_
       refine vo_stM ?_
       refine vo_nil ?_
       refine hK43 _ ?_
       refine vc_ret ?_
       change retQ _ _ _ _ _
       refine retQ_sel [] (srows := []) (.inr rfl) hC rfl rfl rfl rfl rfl rfl rfl ?_
       refine ⟨fr_eq (?_ : FoundM.mk _ _ _ _ = _), rfl⟩
       unfold bindM
       repeat' split
       all_goals first | rfl | (exfalso; omega)
     ·try simp only [zq0, zq1, zq2, zq3, zq4, zq5, zq6, zq7, zq8, zq9, zqa, zqb, zqc, zqd, zqe, zqf] at hc17
      refine vc_skip ?_
      refine hK3 _ ?_
      refine vc_seq fun K44 hK44 => ?_
      refine vc_seq fun K45 hK45 => ?_
      refine vc_region ?_
      refine vo_fieldAddr_ptr rfl rfl Tryz.underlying52 rfl inf3 (by rw [sz3]; decide) ?_
      try simp only [Nat.zero_add]
      refine vo_load_var rfl rfl rfl Tryz.underlying3 rfl rfl ?_
      refine vo_binI rfl rfl rfl rfl trivial ?_
      refine vo_move_pv rfl rfl ?_
      refine vo_split 36 rfl (fun hg20 => ?_) (fun hg20 => ?_)
      ·try simp only [zq0, zq1, zq2, zq3, zq4, zq5, zq6, zq7, zq8, zq9, zqa, zqb, zqc, zqd, zqe, zqf] at hg20
       refine vo_guard_on rfl rfl rfl ?_
       refine vo_move_pv rfl rfl ?_
       refine vo_guard_on rfl rfl rfl ?_
       refine vo_binI rfl rfl rfl rfl trivial ?_
       refine vo_pick_t rfl rfl ?_
       refine vo_nil ?_
       refine hK45 _ ?_
       refine vc_cond rfl (fun hc21 => ?_) (fun hc21 => ?_)
       ·try simp only [zq0, zq1, zq2, zq3, zq4, zq5, zq6, zq7, zq8, zq9, zqa, zqb, zqc, zqd, zqe, zqf] at hc21
        refine vc_region ?_
        refine vo_fieldAddr_ptr rfl rfl Tryz.underlying49 rfl inf3 (by rw [sz3]; decide) ?_
        try simp only [Nat.zero_add]
        refine vo_store_var rfl rfl rfl rfl inf3 sz3 rfl ?_
        refine vo_stM ?_
        refine vo_nil ?_
        refine hK44 _ ?_
        refine vc_seq fun K46 hK46 => ?_
        refine vc_region ?_
        refine vo_load_varS rfl rfl rfl Tryz.underlying49 rfl inf49 sz49 rfl rfl ?_
        refine vo_store_varS rfl rfl rfl inf49 sz49 rfl ?_
        refine vo_stM ?_
        refine vo_nil ?_
        refine hK46 _ ?_
        refine vc_ret ?_
        change retQ _ _ _ _ _
        refine retQ_sel [] (srows := []) (.inr rfl) hC rfl rfl rfl rfl rfl rfl rfl ?_
        refine ⟨fr_eq (?_ : FoundM.mk _ _ _ _ = _), rfl⟩
        unfold bindM
        repeat' split
        all_goals first | rfl | (exfalso; omega)
       ·try simp only [zq0, zq1, zq2, zq3, zq4, zq5, zq6, zq7, zq8, zq9, zqa, zqb, zqc, zqd, zqe, zqf] at hc21
        refine vc_skip ?_
        refine hK44 _ ?_
        refine vc_seq fun K47 hK47 => ?_
        refine vc_region ?_
        refine vo_load_varS rfl rfl rfl Tryz.underlying49 rfl inf49 sz49 rfl rfl ?_
        refine vo_store_varS rfl rfl rfl inf49 sz49 rfl ?_
        refine vo_stM ?_
        refine vo_nil ?_
        refine hK47 _ ?_
        refine vc_ret ?_
        change retQ _ _ _ _ _
        refine retQ_sel [] (srows := []) (.inr rfl) hC rfl rfl rfl rfl rfl rfl rfl ?_
        refine ⟨fr_eq (?_ : FoundM.mk _ _ _ _ = _), rfl⟩
        unfold bindM
        repeat' split
        all_goals first | rfl | (exfalso; omega)
      ·try simp only [zq0, zq1, zq2, zq3, zq4, zq5, zq6, zq7, zq8, zq9, zqa, zqb, zqc, zqd, zqe, zqf] at hg20
       refine vo_guard_off rfl rfl rfl rfl rfl ?_
       refine vo_guard_off rfl rfl rfl rfl rfl ?_
       refine vo_pick_f rfl rfl ?_
       refine vo_nil ?_
       refine hK45 _ ?_
       refine vc_cond_f rfl ?_
       refine vc_skip ?_
       refine hK44 _ ?_
       refine vc_seq fun K48 hK48 => ?_
       refine vc_region ?_
       refine vo_load_varS rfl rfl rfl Tryz.underlying49 rfl inf49 sz49 rfl rfl ?_
       refine vo_store_varS rfl rfl rfl inf49 sz49 rfl ?_
       refine vo_stM ?_
       refine vo_nil ?_
       refine hK48 _ ?_
       refine vc_ret ?_
       change retQ _ _ _ _ _
       refine retQ_sel [] (srows := []) (.inr rfl) hC rfl rfl rfl rfl rfl rfl rfl ?_
       refine ⟨fr_eq (?_ : FoundM.mk _ _ _ _ = _), rfl⟩
       unfold bindM
       repeat' split
       all_goals first | rfl | (exfalso; omega)
    ·try simp only [zq0, zq1, zq2, zq3, zq4, zq5, zq6, zq7, zq8, zq9, zqa, zqb, zqc, zqd, zqe, zqf] at hc16
     refine vc_skip ?_
     refine hK3 _ ?_
     refine vc_seq fun K49 hK49 => ?_
     refine vc_seq fun K50 hK50 => ?_
     refine vc_region ?_
     refine vo_fieldAddr_ptr rfl rfl Tryz.underlying52 rfl inf3 (by rw [sz3]; decide) ?_
     try simp only [Nat.zero_add]
     refine vo_load_var rfl rfl rfl Tryz.underlying3 rfl rfl ?_
     refine vo_binI rfl rfl rfl rfl trivial ?_
     refine vo_move_pv rfl rfl ?_
     refine vo_split 36 rfl (fun hg22 => ?_) (fun hg22 => ?_)
     ·try simp only [zq0, zq1, zq2, zq3, zq4, zq5, zq6, zq7, zq8, zq9, zqa, zqb, zqc, zqd, zqe, zqf] at hg22
      refine vo_guard_on rfl rfl rfl ?_
      refine vo_move_pv rfl rfl ?_
      refine vo_guard_on rfl rfl rfl ?_
      refine vo_binI rfl rfl rfl rfl trivial ?_
      refine vo_pick_t rfl rfl ?_
      refine vo_nil ?_
      refine hK50 _ ?_
      refine vc_cond rfl (fun hc23 => ?_) (fun hc23 => ?_)
      ·try simp only [zq0, zq1, zq2, zq3, zq4, zq5, zq6, zq7, zq8, zq9, zqa, zqb, zqc, zqd, zqe, zqf] at hc23
       refine vc_region ?_
       refine vo_fieldAddr_ptr rfl rfl Tryz.underlying49 rfl inf3 (by rw [sz3]; decide) ?_
       try simp only [Nat.zero_add]
       refine vo_store_var rfl rfl rfl rfl inf3 sz3 rfl ?_
       refine vo_stM ?_
       refine vo_nil ?_
       refine hK49 _ ?_
       refine vc_seq fun K51 hK51 => ?_
       refine vc_region ?_
       refine vo_load_varS rfl rfl rfl Tryz.underlying49 rfl inf49 sz49 rfl rfl ?_
       refine vo_store_varS rfl rfl rfl inf49 sz49 rfl ?_
       refine vo_stM ?_
       refine vo_nil ?_
       refine hK51 _ ?_
       refine vc_ret ?_
       change retQ _ _ _ _ _
       refine retQ_sel [] (srows := []) (.inr rfl) hC rfl rfl rfl rfl rfl rfl rfl ?_
       refine ⟨fr_eq (?_ : FoundM.mk _ _ _ _ = _), rfl⟩
       unfold bindM
       repeat' split
       all_goals first | rfl | (exfalso; omega)
      ·try simp only [zq0, zq1, zq2, zq3, zq4, zq5, zq6, zq7, zq8, zq9, zqa, zqb, zqc, zqd, zqe, zqf] at hc23
       refine vc_skip ?_
       refine hK49 _ ?_
       refine vc_seq fun K52 hK52 => ?_
       refine vc_region ?_
       refine vo_load_varS rfl rfl rfl Tryz.underlying49 rfl inf49 sz49 rfl rfl ?_
       refine vo_store_varS rfl rfl rfl inf49 sz49 rfl ?_
       refine vo_stM ?_
       refine vo_nil ?_
       refine hK52 _ ?_
       refine vc_ret ?_
       change retQ _ _ _ _ _
       refine retQ_sel [] (srows := []) (.inr rfl) hC rfl rfl rfl rfl rfl rfl rfl ?_
       refine ⟨fr_eq (?_ : FoundM.mk _ _ _ _ = _), rfl⟩
       unfold bindM
       repeat' split
       all_goals first | rfl | (exfalso; omega)
     ·try simp only [zq0, zq1, zq2, zq3, zq4, zq5, zq6, zq7, zq8, zq9, zqa, zqb, zqc, zqd, zqe, zqf] at hg22
      refine vo_guard_off rfl rfl rfl rfl rfl ?_
      refine vo_guard_off rfl rfl rfl rfl rfl ?_
      refine vo_pick_f rfl rfl ?_
      refine vo_nil ?_
      refine hK50 _ ?_
      refine vc_cond_f rfl ?_
      refine vc_skip ?_
      refine hK49 _ ?_
      refine vc_seq fun K53 hK53 => ?_
      refine vc_region ?_
      refine vo_load_varS rfl rfl rfl Tryz.underlying49 rfl inf49 sz49 rfl rfl ?_
      refine vo_store_varS rfl rfl rfl inf49 sz49 rfl ?_
      refine vo_stM ?_
      refine vo_nil ?_
      refine hK53 _ ?_
      refine vc_ret ?_
      change retQ _ _ _ _ _
      refine retQ_sel [] (srows := []) (.inr rfl) hC rfl rfl rfl rfl rfl rfl rfl ?_
      refine ⟨fr_eq (?_ : FoundM.mk _ _ _ _ = _), rfl⟩
      unfold bindM
      repeat' split
      all_goals first | rfl | (exfalso; omega)


theorem get_sat {w : WorldM} {x : Int} {name : Int}  (hw : SW w) (hO : hasO w x) : SatAt Tryz.prog 37 [.pv false (worldP w), i64 x, i64 name] [] (fun res rows => res = [.pv true (foundP (getM w x.toNat name))] ∧ rows = []) := by
 have hw0 := hw
 obtain ⟨⟨b1, b2⟩, ⟨a1, a2⟩, o1, o2⟩ := hw
 obtain ⟨hV, h0, h1⟩ := hO
 obtain ⟨x, rfl⟩ := Int.eq_ofNat_of_zero_le h0
 have hcl := hasO_cls (w := w) (x := (x : Int)) ⟨hV, h0, h1⟩
 rw [Int.toNat_natCast] at hcl
 have hof := getD_all o2 ⟨0, []⟩ SO_zero x
 unfold SO at hof
 have hnl := nms_lt (n := name) (l := (w.objs.getD x ⟨0, []⟩).pairs)
 refine sat_entry_G (rs := [(6, some (49, 4))]) Tryz.func37 rfl rfl (Nat.le_of_ble_eq_true rfl) (Nat.le_of_ble_eq_true rfl) (resTs1 ⟨_, _, Tryz.underlying49, rfl, inf49, sz49⟩) fun C hC => ?_
 rw [Tryz.ntmps37]
 replace hC : C.nb = 0 := hC
 refine vc_seq fun K1 hK1 => ?_
 refine vc_region ?_
 refine vo_box rfl rfl ?_
 refine vo_stM ?_
 refine vo_alloc Z49 rfl ?_
 refine vo_stM ?_
 refine vo_nil ?_
 refine hK1 _ ?_
 refine vc_seq fun K2 hK2 => ?_
 refine vc_region ?_
 refine vo_fieldAddr_ptr rfl rfl Tryz.underlying33 rfl inf31 (by rw [sz31]; decide) ?_
 try simp only [Nat.zero_add]
 refine vo_load_var rfl rfl rfl Tryz.underlying31 rfl rfl ?_
 refine vo_move_pv rfl rfl ?_
 refine vo_index_pv (.agg [(.int .i64 0), (.sl none 2 [])]) rfl rfl rfl E31.und inf57 sz57 sd sd ?_
 simp only [Int.toNat_natCast, Int.toNat_zero, getD_ints, getD_intss, getD_bools, getD_bytes, PV.cells, getD_ops, getD_pairs, getD_insts, getD_attrs, getD_attrss, getD_objs, getD_ordP]
 refine vo_load_adrS rfl rfl Tryz.underlying57 rfl inf57 sz57 rfl ?_
 refine vo_st (by (try simp only [St.put, PV.cells, PV.scal, List.drop_succ_cons, List.drop_zero, List.take_succ_cons, List.take_zero, List.map_cons, List.map_nil, Bool.or_true, Bool.or_false, Bool.false_or, Bool.true_or, opP, pairP, instP, heapP]); exact eq_refl _) ?_
 refine vo_alloc Z57 rfl ?_
 refine vo_stM ?_
 refine vo_store_varS rfl rfl rfl inf57 sz57 rfl ?_
 refine vo_stM ?_
 refine vo_nil ?_
 refine hK2 _ ?_
 refine vc_seq fun K3 hK3 => ?_
 refine vc_region ?_
 refine vo_load_varS rfl rfl rfl Tryz.underlying33 rfl inf33 sz33 rfl rfl ?_
 refine vo_fieldAddr_ptr rfl rfl Tryz.underlying57 rfl inf3 (by rw [sz3]; decide) ?_
 try simp only [Nat.zero_add]
 refine vo_load_var rfl rfl rfl Tryz.underlying3 rfl rfl ?_
 refine vo_move_pv rfl rfl ?_
 refine vo_call0 Tryz.func83 rfl rfl rfl rfl (find_sat hw0 hV hcl.1 hcl.2) ?_
 rintro _ _ ⟨rfl, rfl⟩
 refine ⟨rfl, rfl, .inl rfl, ?_⟩
 refine vo_stM ?_
 refine vo_move rfl ?_
 refine vo_stM ?_
 refine vo_extract rfl rfl rfl ?_
 refine vo_extract rfl rfl rfl ?_
 refine vo_alloc Z52 rfl ?_
 refine vo_stM ?_
 refine vo_assign_pv rfl rfl ?_
 refine vo_store_varS rfl rfl rfl inf52 sz52 rfl ?_
 refine vo_stM ?_
 refine vo_nil ?_
 refine hK3 _ ?_
 refine vc_seq fun K4 hK4 => ?_
 refine vc_region ?_
 refine vo_fieldAddr_ptr rfl rfl Tryz.underlying57 rfl inf55 (by rw [sz55]; decide) ?_
 try simp only [Nat.zero_add]
 refine vo_load_var rfl rfl rfl Tryz.underlying55 rfl rfl ?_
 refine vo_move_pv rfl rfl ?_
 refine vo_call0 Tryz.func84 rfl rfl rfl rfl (pairAt_sat (by omega)) ?_
 rintro _ _ ⟨rfl, rfl⟩
 refine ⟨rfl, rfl, .inl rfl, ?_⟩
 refine vo_stM ?_
 refine vo_assign_pv rfl rfl ?_
 refine vo_nil ?_
 refine hK4 _ ?_
 refine vc_seq fun K5 hK5 => ?_
 refine vc_region ?_
 refine vo_move_pv rfl rfl ?_
 refine vo_binI rfl rfl rfl rfl trivial ?_
 refine vo_move_pv rfl rfl ?_
 refine vo_split 31 rfl (fun hg1 => ?_) (fun hg1 => ?_)
 ·try simp only [zq0, zq1, zq2, zq3, zq4, zq5, zq6, zq7, zq8, zq9, zqa, zqb, zqc, zqd, zqe, zqf] at hg1
  refine vo_guard_on rfl rfl rfl ?_
  refine vo_fieldAddr_ptr rfl rfl Tryz.underlying52 rfl inf3 (by rw [sz3]; decide) ?_
  try simp only [Nat.zero_add]
  refine vo_guard_on rfl rfl rfl ?_
  refine vo_load_var rfl rfl rfl Tryz.underlying3 rfl rfl ?_
  refine vo_guard_on rfl rfl rfl ?_
  refine vo_binI rfl rfl rfl rfl trivial ?_
  refine vo_guard_on rfl rfl rfl ?_
  refine vo_move_pv rfl rfl ?_
  refine vo_split 35 rfl (fun hg2 => ?_) (fun hg2 => ?_)
  ·try simp only [zq0, zq1, zq2, zq3, zq4, zq5, zq6, zq7, zq8, zq9, zqa, zqb, zqc, zqd, zqe, zqf] at hg2
   refine vo_guard_off rfl rfl rfl rfl rfl ?_
   refine vo_guard_off rfl rfl rfl rfl rfl ?_
   refine vo_guard_off rfl rfl rfl rfl rfl ?_
   refine vo_guard_on rfl rfl rfl ?_
   refine vo_pick_t rfl rfl ?_
   refine vo_pick_t rfl rfl ?_
   refine vo_assign_pv rfl rfl ?_
   refine vo_nil ?_
   refine hK5 _ ?_
   refine vc_seq fun K6 hK6 => ?_
   refine vc_seq fun K7 hK7 => ?_
   refine vc_region ?_
   refine vo_move_pv rfl rfl ?_
   refine vo_nil ?_
   refine hK7 _ ?_
   refine vc_cond_t rfl ?_
   refine vc_seq fun K8 hK8 => ?_
   refine vc_region ?_
   refine vo_move_pv rfl rfl ?_
   refine vo_load_varS rfl rfl rfl Tryz.underlying52 rfl inf52 sz52 rfl rfl ?_
   refine vo_move_pv rfl rfl ?_
   refine vo_fieldAddr_ptr rfl rfl Tryz.underlying57 rfl inf3 (by rw [sz3]; decide) ?_
   try simp only [Nat.zero_add]
   refine vo_load_var rfl rfl rfl Tryz.underlying3 rfl rfl ?_
   refine vo_call0 Tryz.func85 rfl rfl rfl rfl bind_sat ?_
   rintro _ _ ⟨rfl, rfl⟩
   refine ⟨rfl, rfl, .inl rfl, ?_⟩
   refine vo_stM ?_
   refine vo_store_varS rfl rfl rfl inf49 sz49 rfl ?_
   refine vo_stM ?_
   refine vo_nil ?_
   refine hK8 _ ?_
   refine vc_ret ?_
   change retQ _ _ _ _ _
   refine retQ_sel [] (srows := []) (.inr rfl) hC rfl rfl rfl rfl rfl rfl rfl ?_
   refine ⟨?_, rfl⟩
   rw [Int.toNat_natCast]
   first
    | (exfalso; omega)
    | (refine fr_eq (?_ : bindM _ _ _ _ = _); unfold getM getR; first | rw [if_pos (by omega)] | rw [if_neg (by omega), if_neg (by omega), if_pos (by omega)])
    | (refine fr_eq (?_ : FoundM.mk _ _ _ _ = _); unfold getM getR; rw [if_neg (by omega), if_pos (by omega)])
    | (refine fr_eq (?_ : FoundM.mk _ _ _ _ = _); unfold getM getR; rw [if_neg (by omega), if_neg (by omega), if_neg (by omega)]; rfl)
  ·try simp only [zq0, zq1, zq2, zq3, zq4, zq5, zq6, zq7, zq8, zq9, zqa, zqb, zqc, zqd, zqe, zqf] at hg2
   refine vo_guard_on rfl rfl rfl ?_
   refine vo_fieldAddr_ptr rfl rfl Tryz.underlying52 rfl inf3 (by rw [sz3]; decide) ?_
   try simp only [Nat.zero_add]
   refine vo_guard_on rfl rfl rfl ?_
   refine vo_load_var rfl rfl rfl Tryz.underlying3 rfl rfl ?_
   refine vo_guard_on rfl rfl rfl ?_
   refine vo_binI rfl rfl rfl rfl trivial ?_
   refine vo_guard_on rfl rfl rfl ?_
   refine vo_pick_f rfl rfl ?_
   refine vo_pick_t rfl rfl ?_
   refine vo_assign_pv rfl rfl ?_
   refine vo_nil ?_
   refine hK5 _ ?_
   refine vc_seq fun K9 hK9 => ?_
   refine vc_seq fun K10 hK10 => ?_
   refine vc_region ?_
   refine vo_move_pv rfl rfl ?_
   refine vo_nil ?_
   refine hK10 _ ?_
   refine vc_cond rfl (fun hc3 => ?_) (fun hc3 => ?_)
   ·try simp only [zq0, zq1, zq2, zq3, zq4, zq5, zq6, zq7, zq8, zq9, zqa, zqb, zqc, zqd, zqe, zqf] at hc3
    refine vc_seq fun K11 hK11 => ?_
    refine vc_region ?_
    refine vo_move_pv rfl rfl ?_
    refine vo_load_varS rfl rfl rfl Tryz.underlying52 rfl inf52 sz52 rfl rfl ?_
    refine vo_move_pv rfl rfl ?_
    refine vo_fieldAddr_ptr rfl rfl Tryz.underlying57 rfl inf3 (by rw [sz3]; decide) ?_
    try simp only [Nat.zero_add]
    refine vo_load_var rfl rfl rfl Tryz.underlying3 rfl rfl ?_
    refine vo_call0 Tryz.func85 rfl rfl rfl rfl bind_sat ?_
    rintro _ _ ⟨rfl, rfl⟩
    refine ⟨rfl, rfl, .inl rfl, ?_⟩
    refine vo_stM ?_
    refine vo_store_varS rfl rfl rfl inf49 sz49 rfl ?_
    refine vo_stM ?_
    refine vo_nil ?_
    refine hK11 _ ?_
    refine vc_ret ?_
    change retQ _ _ _ _ _
    refine retQ_sel [] (srows := []) (.inr rfl) hC rfl rfl rfl rfl rfl rfl rfl ?_
    refine ⟨?_, rfl⟩
    rw [Int.toNat_natCast]
    first
     | (exfalso; omega)
     | (refine fr_eq (?_ : bindM _ _ _ _ = _); unfold getM getR; first | rw [if_pos (by omega)] | rw [if_neg (by omega), if_neg (by omega), if_pos (by omega)])
     | (refine fr_eq (?_ : FoundM.mk _ _ _ _ = _); unfold getM getR; rw [if_neg (by omega), if_pos (by omega)])
     | (refine fr_eq (?_ : FoundM.mk _ _ _ _ = _); unfold getM getR; rw [if_neg (by omega), if_neg (by omega), if_neg (by omega)]; rfl)
   ·try simp only [zq0, zq1, zq2, zq3, zq4, zq5, zq6, zq7, zq8, zq9, zqa, zqb, zqc, zqd, zqe, zqf] at hc3
    refine vc_skip ?_
    refine hK9 _ ?_
    refine vc_seq fun K12 hK12 => ?_
    refine vc_seq fun K13 hK13 => ?_
    refine vc_region ?_
    refine vo_move_pv rfl rfl ?_
    refine vo_binI rfl rfl rfl rfl trivial ?_
    refine vo_nil ?_
    refine hK13 _ ?_
    refine vc_cond rfl (fun hc4 => ?_) (fun hc4 => ?_)
    ·try simp only [zq0, zq1, zq2, zq3, zq4, zq5, zq6, zq7, zq8, zq9, zqa, zqb, zqc, zqd, zqe, zqf] at hc4
     refine vc_seq fun K14 hK14 => ?_
     refine vc_region ?_
     refine vo_fieldAddr_ptr rfl rfl Tryz.underlying57 rfl inf55 (by rw [sz55]; decide) ?_
     try simp only [Nat.zero_add]
     refine vo_load_var rfl rfl rfl Tryz.underlying55 rfl rfl ?_
     refine vo_move_pv rfl rfl ?_
     refine vo_index_pv (.agg [(.int .i64 0), (.int .i64 0)]) rfl rfl rfl E55.und inf102 sz102 sd sd ?_
     simp only [Int.toNat_natCast, Int.toNat_zero, getD_ints, getD_intss, getD_bools, getD_bytes, PV.cells, getD_ops, getD_pairs, getD_insts, getD_attrs, getD_attrss, getD_objs, getD_ordP]
     refine vo_fieldAddr_adr rfl rfl Tryz.underlying102 rfl inf3 (by rw [sz3]; decide) ?_
     refine vo_load_adr rfl rfl Tryz.underlying3 rfl ?_
     refine vo_move_pv rfl rfl ?_
     refine vo_build S49 rfl rfl rfl ?_
     refine vo_stM ?_
     refine vo_store_varS rfl rfl rfl inf49 sz49 rfl ?_
     refine vo_stM ?_
     refine vo_nil ?_
     refine hK14 _ ?_
     refine vc_ret ?_
     change retQ _ _ _ _ _
     refine retQ_sel [] (srows := []) (.inr rfl) hC rfl rfl rfl rfl rfl rfl rfl ?_
     refine ⟨?_, rfl⟩
     rw [Int.toNat_natCast]
     first
      | (exfalso; omega)
      | (refine fr_eq (?_ : bindM _ _ _ _ = _); unfold getM getR; first | rw [if_pos (by omega)] | rw [if_neg (by omega), if_neg (by omega), if_pos (by omega)])
      | (refine fr_eq (?_ : FoundM.mk _ _ _ _ = _); unfold getM getR; rw [if_neg (by omega), if_pos (by omega)])
      | (refine fr_eq (?_ : FoundM.mk _ _ _ _ = _); unfold getM getR; rw [if_neg (by omega), if_neg (by omega), if_neg (by omega)]; rfl)
    ·try simp only [zq0, zq1, zq2, zq3, zq4, zq5, zq6, zq7, zq8, zq9, zqa, zqb, zqc, zqd, zqe, zqf] at hc4
     refine vc_skip ?_
     refine hK12 _ ?_
     refine vc_seq fun K15 hK15 => ?_
     refine vc_seq fun K16 hK16 => ?_
     refine vc_region ?_
     refine vo_move_pv rfl rfl ?_
     refine vo_binI rfl rfl rfl rfl trivial ?_
     refine vo_nil ?_
     refine hK16 _ ?_
     refine vc_cond rfl (fun hc5 => ?_) (fun hc5 => ?_)
     ·try simp only [zq0, zq1, zq2, zq3, zq4, zq5, zq6, zq7, zq8, zq9, zqa, zqb, zqc, zqd, zqe, zqf] at hc5
      refine vc_seq fun K17 hK17 => ?_
      refine vc_region ?_
      refine vo_move_pv rfl rfl ?_
      refine vo_load_varS rfl rfl rfl Tryz.underlying52 rfl inf52 sz52 rfl rfl ?_
      refine vo_move_pv rfl rfl ?_
      refine vo_fieldAddr_ptr rfl rfl Tryz.underlying57 rfl inf3 (by rw [sz3]; decide) ?_
      try simp only [Nat.zero_add]
      refine vo_load_var rfl rfl rfl Tryz.underlying3 rfl rfl ?_
      refine vo_call0 Tryz.func85 rfl rfl rfl rfl bind_sat ?_
      rintro _ _ ⟨rfl, rfl⟩
      refine ⟨rfl, rfl, .inl rfl, ?_⟩
      refine vo_stM ?_
      refine vo_store_varS rfl rfl rfl inf49 sz49 rfl ?_
      refine vo_stM ?_
      refine vo_nil ?_
      refine hK17 _ ?_
      refine vc_ret ?_
      change retQ _ _ _ _ _
      refine retQ_sel [] (srows := []) (.inr rfl) hC rfl rfl rfl rfl rfl rfl rfl ?_
      refine ⟨?_, rfl⟩
      rw [Int.toNat_natCast]
      first
       | (exfalso; omega)
       | (refine fr_eq (?_ : bindM _ _ _ _ = _); unfold getM getR; first | rw [if_pos (by omega)] | rw [if_neg (by omega), if_neg (by omega), if_pos (by omega)])
       | (refine fr_eq (?_ : FoundM.mk _ _ _ _ = _); unfold getM getR; rw [if_neg (by omega), if_pos (by omega)])
       | (refine fr_eq (?_ : FoundM.mk _ _ _ _ = _); unfold getM getR; rw [if_neg (by omega), if_neg (by omega), if_neg (by omega)]; rfl)
     ·try simp only [zq0, zq1, zq2, zq3, zq4, zq5, zq6, zq7, zq8, zq9, zqa, zqb, zqc, zqd, zqe, zqf] at hc5
      refine vc_skip ?_
      refine hK15 _ ?_
      refine vc_seq fun K18 hK18 => ?_
      refine vc_region ?_
      refine vo_build S49 rfl rfl rfl ?_
      refine vo_stM ?_
      refine vo_store_varS rfl rfl rfl inf49 sz49 rfl ?_
      refine vo_stM ?_
      refine vo_nil ?_
      refine hK18 _ ?_
      refine vc_ret ?_
      change retQ _ _ _ _ _
      refine retQ_sel [] (srows := []) (.inr rfl) hC rfl rfl rfl rfl rfl rfl rfl ?_
      refine ⟨?_, rfl⟩
      rw [Int.toNat_natCast]
      first
       | (exfalso; omega)
       | (refine fr_eq (?_ : bindM _ _ _ _ = _); unfold getM getR; first | rw [if_pos (by omega)] | rw [if_neg (by omega), if_neg (by omega), if_pos (by omega)])
       | (refine fr_eq (?_ : FoundM.mk _ _ _ _ = _); unfold getM getR; rw [if_neg (by omega), if_pos (by omega)])
       | (refine fr_eq (?_ : FoundM.mk _ _ _ _ = _); unfold getM getR; rw [if_neg (by omega), if_neg (by omega), if_neg (by omega)]; rfl)
 ·try simp only [zq0, zq1, zq2, zq3, zq4, zq5, zq6, zq7, zq8, zq9, zqa, zqb, zqc, zqd, zqe, zqf] at hg1
  refine vo_guard_off rfl rfl rfl rfl rfl ?_
  refine vo_guard_off rfl rfl rfl rfl rfl ?_
  refine vo_guard_off rfl rfl rfl rfl rfl ?_
  refine vo_guard_off rfl rfl rfl rfl rfl ?_
  refine vo_guard_und rfl rfl rfl rfl ?_
  refine vo_guard_und rfl rfl rfl rfl ?_
  refine vo_guard_und rfl rfl rfl rfl ?_
  refine vo_guard_off rfl rfl rfl rfl rfl ?_
  refine vo_pick_f rfl rfl ?_
  refine vo_assign_pv rfl rfl ?_
  refine vo_nil ?_
  refine hK5 _ ?_
  refine vc_seq fun K19 hK19 => ?_
  refine vc_seq fun K20 hK20 => ?_
  refine vc_region ?_
  refine vo_move_pv rfl rfl ?_
  refine vo_nil ?_
  refine hK20 _ ?_
  refine vc_cond_f rfl ?_
  refine vc_skip ?_
  refine hK19 _ ?_
  refine vc_seq fun K21 hK21 => ?_
  refine vc_seq fun K22 hK22 => ?_
  refine vc_region ?_
  refine vo_move_pv rfl rfl ?_
  refine vo_binI rfl rfl rfl rfl trivial ?_
  refine vo_nil ?_
  refine hK22 _ ?_
  refine vc_cond rfl (fun hc6 => ?_) (fun hc6 => ?_)
  ·try simp only [zq0, zq1, zq2, zq3, zq4, zq5, zq6, zq7, zq8, zq9, zqa, zqb, zqc, zqd, zqe, zqf] at hc6
   refine vc_seq fun K23 hK23 => ?_
   refine vc_region ?_
   refine vo_fieldAddr_ptr rfl rfl Tryz.underlying57 rfl inf55 (by rw [sz55]; decide) ?_
   try simp only [Nat.zero_add]
   refine vo_load_var rfl rfl rfl Tryz.underlying55 rfl rfl ?_
   refine vo_move_pv rfl rfl ?_
   refine vo_index_pv (.agg [(.int .i64 0), (.int .i64 0)]) rfl rfl rfl E55.und inf102 sz102 sd sd ?_
   simp only [Int.toNat_natCast, Int.toNat_zero, getD_ints, getD_intss, getD_bools, getD_bytes, PV.cells, getD_ops, getD_pairs, getD_insts, getD_attrs, getD_attrss, getD_objs, getD_ordP]
   refine vo_fieldAddr_adr rfl rfl Tryz.underlying102 rfl inf3 (by rw [sz3]; decide) ?_
   refine vo_load_adr rfl rfl Tryz.underlying3 rfl ?_
   refine vo_move_pv rfl rfl ?_
   refine vo_build S49 rfl rfl rfl ?_
   refine vo_stM ?_
   refine vo_store_varS rfl rfl rfl inf49 sz49 rfl ?_
   refine vo_stM ?_
   refine vo_nil ?_
   refine hK23 _ ?_
   refine vc_ret ?_
   change retQ _ _ _ _ _
   refine retQ_sel [] (srows := []) (.inr rfl) hC rfl rfl rfl rfl rfl rfl rfl ?_
   refine ⟨?_, rfl⟩
   rw [Int.toNat_natCast]
   first
    | (exfalso; omega)
    | (refine fr_eq (?_ : bindM _ _ _ _ = _); unfold getM getR; first | rw [if_pos (by omega)] | rw [if_neg (by omega), if_neg (by omega), if_pos (by omega)])
    | (refine fr_eq (?_ : FoundM.mk _ _ _ _ = _); unfold getM getR; rw [if_neg (by omega), if_pos (by omega)])
    | (refine fr_eq (?_ : FoundM.mk _ _ _ _ = _); unfold getM getR; rw [if_neg (by omega), if_neg (by omega), if_neg (by omega)]; rfl)
  ·try simp only [zq0, zq1, zq2, zq3, zq4, zq5, zq6, zq7, zq8, zq9, zqa, zqb, zqc, zqd, zqe, zqf] at hc6
   refine vc_skip ?_
   refine hK21 _ ?_
   refine vc_seq fun K24 hK24 => ?_
   refine vc_seq fun K25 hK25 => ?_
   refine vc_region ?_
   refine vo_move_pv rfl rfl ?_
   refine vo_binI rfl rfl rfl rfl trivial ?_
   refine vo_nil ?_
   refine hK25 _ ?_
   refine vc_cond rfl (fun hc7 => ?_) (fun hc7 => ?_)
   ·try simp only [zq0, zq1, zq2, zq3, zq4, zq5, zq6, zq7, zq8, zq9, zqa, zqb, zqc, zqd, zqe, zqf] at hc7
    refine vc_seq fun K26 hK26 => ?_
    refine vc_region ?_
    refine vo_move_pv rfl rfl ?_
    refine vo_load_varS rfl rfl rfl Tryz.underlying52 rfl inf52 sz52 rfl rfl ?_
    refine vo_move_pv rfl rfl ?_
    refine vo_fieldAddr_ptr rfl rfl Tryz.underlying57 rfl inf3 (by rw [sz3]; decide) ?_
    try simp only [Nat.zero_add]
    refine vo_load_var rfl rfl rfl Tryz.underlying3 rfl rfl ?_
    refine vo_call0 Tryz.func85 rfl rfl rfl rfl bind_sat ?_
    rintro _ _ ⟨rfl, rfl⟩
    refine ⟨rfl, rfl, .inl rfl, ?_⟩
    refine vo_stM ?_
    refine vo_store_varS rfl rfl rfl inf49 sz49 rfl ?_
    refine vo_stM ?_
    refine vo_nil ?_
    refine hK26 _ ?_
    refine vc_ret ?_
    change retQ _ _ _ _ _
    refine retQ_sel [] (srows := []) (.inr rfl) hC rfl rfl rfl rfl rfl rfl rfl ?_
    refine ⟨?_, rfl⟩
    rw [Int.toNat_natCast]
    first
     | (exfalso; omega)
     | (refine fr_eq (?_ : bindM _ _ _ _ = _); unfold getM getR; first | rw [if_pos (by omega)] | rw [if_neg (by omega), if_neg (by omega), if_pos (by omega)])
     | (refine fr_eq (?_ : FoundM.mk _ _ _ _ = _); unfold getM getR; rw [if_neg (by omega), if_pos (by omega)])
     | (refine fr_eq (?_ : FoundM.mk _ _ _ _ = _); unfold getM getR; rw [if_neg (by omega), if_neg (by omega), if_neg (by omega)]; rfl)
   ·try simp only [zq0, zq1, zq2, zq3, zq4, zq5, zq6, zq7, zq8, zq9, zqa, zqb, zqc, zqd, zqe, zqf] at hc7
    refine vc_skip ?_
    refine hK24 _ ?_
    refine vc_seq fun K27 hK27 => ?_
    refine vc_region ?_
    refine vo_build S49 rfl rfl rfl ?_
    refine vo_stM ?_
    refine vo_store_varS rfl rfl rfl inf49 sz49 rfl ?_
    refine vo_stM ?_
    refine vo_nil ?_
    refine hK27 _ ?_
    refine vc_ret ?_
    change retQ _ _ _ _ _
    refine retQ_sel [] (srows := []) (.inr rfl) hC rfl rfl rfl rfl rfl rfl rfl ?_
    refine ⟨?_, rfl⟩
    rw [Int.toNat_natCast]
    first
     | (exfalso; omega)
     | (refine fr_eq (?_ : bindM _ _ _ _ = _); unfold getM getR; first | rw [if_pos (by omega)] | rw [if_neg (by omega), if_neg (by omega), if_pos (by omega)])
     | (refine fr_eq (?_ : FoundM.mk _ _ _ _ = _); unfold getM getR; rw [if_neg (by omega), if_pos (by omega)])
     | (refine fr_eq (?_ : FoundM.mk _ _ _ _ = _); unfold getM getR; rw [if_neg (by omega), if_neg (by omega), if_neg (by omega)]; rfl)


end Go.Vl

namespace Go.Vl
set_option linter.unusedVariables false
set_option linter.unusedSimpArgs false
open Go.Proofs

theorem toWorldT_sat {a : WorldM}  (hw : SW a) : SatAt Tryz.prog 12 [.pv false (worldP a)] [] (fun res rows => res = [.ag [.ref 0, .ref 1, .ref 2]] ∧ rows = [Row.tree 28 1 none none (a.bases.map ints), Row.tree 97 1 none none (a.attrs.map attrsP), Row.tree 57 2 none none (a.objs.map objP)]) := by
 obtain ⟨⟨b1, b2⟩, ⟨a1, a2⟩, o1, o2⟩ := hw
 refine sat_entry_G (rs := [(2, some (33, 3))]) Tryz.func12 rfl rfl (Nat.le_of_ble_eq_true rfl) (Nat.le_of_ble_eq_true rfl) (resTs1 ⟨_, _, Tryz.underlying33, rfl, inf33, sz33⟩) fun C hC => ?_
 rw [Tryz.ntmps12]
 replace hC : C.nb = 0 := hC
 refine vc_seq fun K1 hK1 => ?_
 refine vc_region ?_
 refine vo_box rfl rfl ?_
 refine vo_stM ?_
 refine vo_alloc Z33 rfl ?_
 refine vo_stM ?_
 refine vo_nil ?_
 refine hK1 _ ?_
 refine vc_seq fun K2 hK2 => ?_
 refine vc_region ?_
 refine vo_alloc Z33 rfl ?_
 refine vo_stM ?_
 refine vo_nil ?_
 refine hK2 _ ?_
 refine vc_seq fun K3 hK3 => ?_
 refine vc_region ?_
 refine vo_fieldAddr_ptr rfl rfl Tryz.underlying26 rfl inf22 (by rw [sz22]; decide) ?_
 try simp only [Nat.zero_add]
 refine vo_load_var rfl rfl rfl Tryz.underlying22 rfl rfl ?_
 refine vo_call [] Tryz.func38 rfl rfl rfl rfl rfl rfl rfl (toIntSST_sat (by omega) (fun l hl => by have := b2 l hl; omega)) ?_
 rintro _ _ ⟨rfl, rfl⟩
 refine ⟨Nat.le_of_ble_eq_true rfl, ⟨rfl, rfl, rfl, rfl⟩, .inl rfl, ?_⟩
 refine vo_stM ?_
 refine vo_weaktree 3 rfl ?_
 refine vo_stM ?_
 refine vo_fieldAddr_ptr rfl rfl Tryz.underlying33 rfl inf22 (by rw [sz22]; decide) ?_
 try simp only [Nat.zero_add]
 refine vo_store_varG rfl rfl rfl rfl inf22 sz22 rfl ?_
 refine vo_stM ?_
 refine vo_nil ?_
 refine hK3 _ ?_
 refine vc_seq fun K4 hK4 => ?_
 refine vc_region ?_
 refine vo_fieldAddr_ptr rfl rfl Tryz.underlying26 rfl inf23 (by rw [sz23]; decide) ?_
 try simp only [Nat.zero_add]
 refine vo_load_var rfl rfl rfl Tryz.underlying23 rfl rfl ?_
 refine vo_call [] Tryz.func39 rfl rfl rfl rfl rfl rfl rfl (toAttrSST_sat (by omega) (fun l hl => by have := a2 l hl; omega)) ?_
 rintro _ _ ⟨rfl, rfl⟩
 refine ⟨Nat.le_of_ble_eq_true rfl, ⟨rfl, rfl, rfl, rfl⟩, .inl rfl, ?_⟩
 refine vo_stM ?_
 refine vo_weaktree 4 rfl ?_
 refine vo_stM ?_
 refine vo_fieldAddr_ptr rfl rfl Tryz.underlying33 rfl inf30 (by rw [sz30]; decide) ?_
 try simp only [Nat.zero_add]
 refine vo_store_varG rfl rfl rfl rfl inf30 sz30 rfl ?_
 refine vo_stM ?_
 refine vo_nil ?_
 refine hK4 _ ?_
 refine vc_seq fun K5 hK5 => ?_
 refine vc_region ?_
 refine vo_fieldAddr_ptr rfl rfl Tryz.underlying26 rfl inf24 (by rw [sz24]; decide) ?_
 try simp only [Nat.zero_add]
 refine vo_load_var rfl rfl rfl Tryz.underlying24 rfl rfl ?_
 refine vo_call [] Tryz.func40 rfl rfl rfl rfl rfl rfl rfl (toObjectST_sat (by omega) o2) ?_
 rintro _ _ ⟨rfl, rfl⟩
 refine ⟨Nat.le_of_ble_eq_true rfl, ⟨rfl, rfl, rfl, rfl⟩, .inl rfl, ?_⟩
 refine vo_stM ?_
 refine vo_weaktree 5 rfl ?_
 refine vo_stM ?_
 refine vo_fieldAddr_ptr rfl rfl Tryz.underlying33 rfl inf31 (by rw [sz31]; decide) ?_
 try simp only [Nat.zero_add]
 refine vo_store_varG rfl rfl rfl rfl inf31 sz31 rfl ?_
 refine vo_stM ?_
 refine vo_nil ?_
 refine hK5 _ ?_
 refine vc_seq fun K6 hK6 => ?_
 refine vc_region ?_
 refine vo_load_varG rfl rfl rfl Tryz.underlying33 rfl inf33 sz33 rfl ?_
 refine vo_stM ?_
 refine vo_store_varG rfl rfl rfl rfl inf33 sz33 rfl ?_
 refine vo_stM ?_
 refine vo_nil ?_
 refine hK6 _ ?_
 refine vc_ret ?_
 change retQ _ _ _ _ _
 refine retQ_sel [3, 4, 5] (srows := [_, _, _]) (.inr rfl) hC rfl rfl rfl rfl rfl rfl rfl ?_
 exact ⟨rfl, rfl⟩


end Go.Vl

namespace Go.Vl
set_option linter.unusedVariables false
set_option linter.unusedSimpArgs false
open Go.Proofs

def selN (p : Int → Bool) (k : Nat) : List Int := ((List.range k).map fun i : Nat => (i : Int)).filter p
theorem selN_yes {p : Int → Bool} {k : Nat} (h : p k = true) : selN p (k + 1) = selN p k ++ [(k : Int)] := by
  unfold selN; rw [List.range_succ, List.map_append, List.filter_append]; simp [h]
theorem selN_no {p : Int → Bool} {k : Nat} (h : ¬ p k = true) : selN p (k + 1) = selN p k := by
  unfold selN; rw [List.range_succ, List.map_append, List.filter_append]; simp [h]
theorem selN_len (p : Int → Bool) (k : Nat) : (selN p k).length ≤ k := by
  unfold selN; refine Nat.le_trans (List.length_filter_le _ _) (by simp)
def namP (w : WorldM) (x n : Int) : Bool := decide ((getAttrM w x n).how ≠ 0)
def namM (w : WorldM) (x : Int) : List Int := selN (namP w x) 10
theorem namM_no {w : WorldM} {x : Int} (h : ¬ hasO w x) : namM w x = [] := by
  unfold namM selN
  rw [List.filter_eq_nil_iff]
  intro n _
  unfold namP getAttrM
  rw [if_neg h]
  simp [none0]

theorem namM_len {w : WorldM} {x : Int} : (namM w x).length ≤ 10 := selN_len _ _

theorem namesOwn_sat {w : WorldM} {x : Int}  (hw : SW w) : SatAt Tryz.prog 13 [.pv false (worldP w), i64 x] [] (fun res rows => ∃ nl, res = [.ref 0] ∧ rows = [Row.own 3 1 nl true ((namM w x).map intP)]) := by
 refine sat_entry_G (rs := [(4, none)]) Tryz.func13 rfl rfl (Nat.le_of_ble_eq_true rfl) (Nat.le_of_ble_eq_true rfl) (resTs1 trivial) fun C hC => ?_
 rw [Tryz.ntmps13]
 replace hC : C.nb = 0 := hC
 refine vc_seq fun K1 hK1 => ?_
 refine vc_region ?_
 refine vo_box rfl rfl ?_
 refine vo_stM ?_
 refine vo_assign_pv rfl rfl ?_
 refine vo_own_nil 4 E28 rfl ?_
 refine vo_nil ?_
 refine hK1 _ ?_
 refine vc_seq fun K2 hK2 => ?_
 refine vc_region ?_
 refine vo_assign_pv rfl rfl ?_
 refine vo_nil ?_
 refine hK2 _ ?_
 refine vc_seq fun K3 hK3 => ?_
 refine vc_seq fun K4 hK4 => ?_
 refine vc_region ?_
 refine vo_move_pv rfl rfl ?_
 refine vo_nil ?_
 refine hK4 _ ?_
 refine vc_block ?_
 refine vc_own_nil 5 E28 rfl ?_
 refine vc_stM ?_
 refine vc_loopE [1, 2] [5, 7] [2] _ _ (fun mz vs rs => ∃ (k : Nat), mz = 10 - k ∧ (k ≤ 10) ∧ vs = [.ref 2, i64 k] ∧ rs = [Row.own 3 1 none true ((selN (namP w x) (k)).map intP)]) (10) rfl rfl (le_len hC rfl) ⟨rfl, rfl, rfl⟩ rfl ⟨0, rfl, Nat.zero_le _, rfl, rfl⟩ ?_
 rintro mz vs rs - - ⟨k, rfl, hk, rfl, rfl⟩
 refine vc_stM ?_
 have hsl := selN_len (namP w x) k
 refine vc_seq fun K5 hK5 => ?_
 refine vc_region ?_
 refine vo_binI rfl rfl rfl rfl trivial ?_
 refine vo_nil ?_
 refine hK5 _ ?_
 refine vc_seq fun K6 hK6 => ?_
 refine vc_cond rfl (fun hc1 => ?_) (fun hc1 => ?_)
 ·try simp only [zq0, zq1, zq2, zq3, zq4, zq5, zq6, zq7, zq8, zq9, zqa, zqb, zqc, zqd, zqe, zqf] at hc1
  refine vc_skip ?_
  refine hK6 _ ?_
  refine vc_seq fun K7 hK7 => ?_
  refine vc_block ?_
  refine vc_seq fun K8 hK8 => ?_
  refine vc_region ?_
  refine vo_move_pv rfl rfl ?_
  refine vo_assign_pv rfl rfl ?_
  refine vo_nil ?_
  refine hK8 _ ?_
  refine vc_seq fun K9 hK9 => ?_
  refine vc_region ?_
  refine vo_load_varS rfl rfl rfl Tryz.underlying33 rfl inf33 sz33 rfl rfl ?_
  refine vo_move_pv rfl rfl ?_
  refine vo_move_pv rfl rfl ?_
  refine vo_call0 Tryz.func26 rfl rfl rfl rfl (implGetAttr_sat hw) ?_
  rintro _ _ ⟨rfl, rfl⟩
  refine ⟨rfl, rfl, .inl rfl, ?_⟩
  refine vo_stM ?_
  refine vo_field1 rfl rfl Tryz.underlying49 rfl Tryz.underlying3 rfl rfl ?_
  refine vo_binI rfl rfl rfl rfl trivial ?_
  refine vo_nil ?_
  refine hK9 _ ?_
  refine vc_cond rfl (fun hc2 => ?_) (fun hc2 => ?_)
  ·try simp only [zq0, zq1, zq2, zq3, zq4, zq5, zq6, zq7, zq8, zq9, zqa, zqb, zqc, zqd, zqe, zqf] at hc2
   refine vc_region ?_
   refine vo_move_ref rfl rfl ?_
   refine vo_move_pv rfl rfl ?_
   refine vo_buildSlice E28 rfl rfl rfl rfl rfl ?_
   refine vo_stM ?_
   refine vo_append E28 rfl (by omega) rfl rfl rfl sd sd ?_
   refine vo_stM ?_
   try simp only [app_ints, app_intss, app_bools]
   refine vo_assign_ref rfl rfl ?_
   refine vo_nil ?_
   refine hK7 _ ?_
   refine vc_region ?_
   refine vo_binI rfl rfl rfl rfl sd ?_
   refine vo_move_pv rfl rfl ?_
   refine vo_nil ?_
   change againE _ _ _ _ _ _ _ _ _ _
   refine againE_mk rfl rfl rfl rfl rfl rfl ⟨_, ?_, k + 1, rfl, ?_, rfl, (congrArg (fun l => [Row.own 3 1 none true (List.map intP l)]) (show selN (namP w x) k ++ [(k : Int)] = selN (namP w x) (k + 1) by rw [selN_yes (by unfold namP; exact decide_eq_true (by assumption))]))⟩
   ·omega
   ·omega
  ·try simp only [zq0, zq1, zq2, zq3, zq4, zq5, zq6, zq7, zq8, zq9, zqa, zqb, zqc, zqd, zqe, zqf] at hc2
   refine vc_skip ?_
   refine hK7 _ ?_
   refine vc_region ?_
   refine vo_binI rfl rfl rfl rfl sd ?_
   refine vo_move_pv rfl rfl ?_
   refine vo_nil ?_
   change againE _ _ _ _ _ _ _ _ _ _
   refine againE_mk rfl rfl rfl rfl rfl rfl ⟨_, ?_, k + 1, rfl, ?_, rfl, (congrArg (fun l => [Row.own 3 1 none true (List.map intP l)]) (show selN (namP w x) k = selN (namP w x) (k + 1) by rw [selN_no (by unfold namP; intro h; exact absurd (by assumption) (of_decide_eq_true h))]))⟩
   ·omega
   ·omega
 ·try simp only [zq0, zq1, zq2, zq3, zq4, zq5, zq6, zq7, zq8, zq9, zqa, zqb, zqc, zqd, zqe, zqf] at hc1
  refine vc_exit ?_
  refine hK3 _ ?_
  refine vc_seq fun K10 hK10 => ?_
  refine vc_region ?_
  refine vo_move_ref rfl rfl ?_
  refine vo_assign_ref rfl rfl ?_
  refine vo_nil ?_
  refine hK10 _ ?_
  refine vc_ret ?_
  change retQ _ _ _ _ _
  refine retQ_sel [2] (srows := [_]) (.inr rfl) hC rfl rfl rfl rfl rfl rfl rfl ?_
  rw [show k = 10 by omega]; exact ⟨_, rfl, rfl⟩


theorem specNamesOf_sat {w : WorldM} {x : Int}  (hw : SW w) : SatAt Tryz.prog 11 [.pv false (worldP w), i64 x] [] (fun res rows => ∃ nl, res = [.pv true (.sl nl 1 ((namM w x).map intP))] ∧ rows = []) := by
 refine sat_entry_G (rs := [(4, none)]) Tryz.func11 rfl rfl (Nat.le_of_ble_eq_true rfl) (Nat.le_of_ble_eq_true rfl) (resTs1 trivial) fun C hC => ?_
 rw [Tryz.ntmps11]
 replace hC : C.nb = 0 := hC
 refine vc_seq fun K1 hK1 => ?_
 refine vc_region ?_
 refine vo_box rfl rfl ?_
 refine vo_stM ?_
 refine vo_assign_pv rfl rfl ?_
 refine vo_own_nil 4 E28 rfl ?_
 refine vo_nil ?_
 refine hK1 _ ?_
 refine vc_seq fun K2 hK2 => ?_
 refine vc_seq fun K3 hK3 => ?_
 refine vc_region ?_
 refine vo_load_varS rfl rfl rfl Tryz.underlying33 rfl inf33 sz33 rfl rfl ?_
 refine vo_move_pv rfl rfl ?_
 refine vo_call0 Tryz.func36 rfl rfl rfl rfl (validObject_sat hw) ?_
 rintro _ _ ⟨rfl, rfl⟩
 refine ⟨rfl, rfl, .inl rfl, ?_⟩
 refine vo_stM ?_
 refine vo_not rfl rfl ?_
 refine vo_nil ?_
 refine hK3 _ ?_
 refine vc_cond rfl (fun hc1 => ?_) (fun hc1 => ?_)
 ·try simp only [zq0, zq1, zq2, zq3, zq4, zq5, zq6, zq7, zq8, zq9, zqa, zqb, zqc, zqd, zqe, zqf] at hc1
  refine vc_seq fun K4 hK4 => ?_
  refine vc_region ?_
  refine vo_assign_pv rfl rfl ?_
  refine vo_own_nil 4 E28 rfl ?_
  refine vo_nil ?_
  refine hK4 _ ?_
  refine vc_expose 2 (by omega) rfl ?_
  refine vc_stM ?_
  refine vc_ret ?_
  change retQ _ _ _ _ _
  refine retQ_sel [] (srows := []) (.inr rfl) hC rfl rfl rfl rfl rfl rfl rfl ?_
  rw [namM_no (by assumption)]; exact ⟨_, rfl, rfl⟩
 ·try simp only [zq0, zq1, zq2, zq3, zq4, zq5, zq6, zq7, zq8, zq9, zqa, zqb, zqc, zqd, zqe, zqf] at hc1
  have hge : ∀ n, getAttrM w x n = getM w x.toNat n := fun n => by unfold getAttrM; rw [if_pos hc1]
  refine vc_skip ?_
  refine hK2 _ ?_
  refine vc_seq fun K5 hK5 => ?_
  refine vc_region ?_
  refine vo_buildSlice E28 rfl rfl rfl rfl rfl ?_
  refine vo_stM ?_
  refine vo_assign_ref rfl rfl ?_
  refine vo_nil ?_
  refine hK5 _ ?_
  refine vc_seq fun K6 hK6 => ?_
  refine vc_seq fun K7 hK7 => ?_
  refine vc_region ?_
  refine vo_assign_pv rfl rfl ?_
  refine vo_nil ?_
  refine hK7 _ ?_
  refine vc_block ?_
  refine vc_stM ?_
  refine vc_loopE [1, 2] [5, 6] [2] _ _ (fun mz vs rs => ∃ (k : Nat), mz = 10 - k ∧ (k ≤ 10) ∧ vs = [.ref 2, i64 k] ∧ rs = [Row.own 3 1 (some false) true ((selN (namP w x) (k)).map intP)]) (10) rfl rfl (le_len hC rfl) ⟨rfl, rfl, rfl⟩ rfl ⟨0, rfl, Nat.zero_le _, rfl, rfl⟩ ?_
  rintro mz vs rs - - ⟨k, rfl, hk, rfl, rfl⟩
  refine vc_stM ?_
  have hsl := selN_len (namP w x) k
  refine vc_seq fun K8 hK8 => ?_
  refine vc_seq fun K9 hK9 => ?_
  refine vc_region ?_
  refine vo_move_pv rfl rfl ?_
  refine vo_binI rfl rfl rfl rfl trivial ?_
  refine vo_nil ?_
  refine hK9 _ ?_
  refine vc_cond rfl (fun hc2 => ?_) (fun hc2 => ?_)
  ·try simp only [zq0, zq1, zq2, zq3, zq4, zq5, zq6, zq7, zq8, zq9, zqa, zqb, zqc, zqd, zqe, zqf] at hc2
   refine vc_skip ?_
   refine hK8 _ ?_
   refine vc_seq fun K10 hK10 => ?_
   refine vc_block ?_
   refine vc_seq fun K11 hK11 => ?_
   refine vc_region ?_
   refine vo_load_varS rfl rfl rfl Tryz.underlying33 rfl inf33 sz33 rfl rfl ?_
   refine vo_move_pv rfl rfl ?_
   refine vo_move_pv rfl rfl ?_
   refine vo_call0 Tryz.func37 rfl rfl rfl rfl (get_sat hw hc1) ?_
   rintro _ _ ⟨rfl, rfl⟩
   refine ⟨rfl, rfl, .inl rfl, ?_⟩
   refine vo_stM ?_
   refine vo_field1 rfl rfl Tryz.underlying49 rfl Tryz.underlying3 rfl rfl ?_
   refine vo_binI rfl rfl rfl rfl trivial ?_
   refine vo_nil ?_
   refine hK11 _ ?_
   refine vc_cond rfl (fun hc3 => ?_) (fun hc3 => ?_)
   ·try simp only [zq0, zq1, zq2, zq3, zq4, zq5, zq6, zq7, zq8, zq9, zqa, zqb, zqc, zqd, zqe, zqf] at hc3
    refine vc_region ?_
    refine vo_move_ref rfl rfl ?_
    refine vo_move_pv rfl rfl ?_
    refine vo_buildSlice E28 rfl rfl rfl rfl rfl ?_
    refine vo_stM ?_
    refine vo_append E28 rfl (by omega) rfl rfl rfl sd sd ?_
    refine vo_stM ?_
    try simp only [app_ints, app_intss, app_bools]
    refine vo_assign_ref rfl rfl ?_
    refine vo_nil ?_
    refine hK10 _ ?_
    refine vc_region ?_
    refine vo_move_pv rfl rfl ?_
    refine vo_binI rfl rfl rfl rfl sd ?_
    refine vo_assign_pv rfl rfl ?_
    refine vo_nil ?_
    change againE _ _ _ _ _ _ _ _ _ _
    refine againE_mk rfl rfl rfl rfl rfl rfl ⟨_, ?_, k + 1, rfl, ?_, rfl, (congrArg (fun l => [Row.own 3 1 (some false) true (List.map intP l)]) (show selN (namP w x) k ++ [(k : Int)] = selN (namP w x) (k + 1) by rw [selN_yes (by unfold namP; rw [hge]; exact decide_eq_true (by assumption))]))⟩
    ·omega
    ·omega
   ·try simp only [zq0, zq1, zq2, zq3, zq4, zq5, zq6, zq7, zq8, zq9, zqa, zqb, zqc, zqd, zqe, zqf] at hc3
    refine vc_skip ?_
    refine hK10 _ ?_
    refine vc_region ?_
    refine vo_move_pv rfl rfl ?_
    refine vo_binI rfl rfl rfl rfl sd ?_
    refine vo_assign_pv rfl rfl ?_
    refine vo_nil ?_
    change againE _ _ _ _ _ _ _ _ _ _
    refine againE_mk rfl rfl rfl rfl rfl rfl ⟨_, ?_, k + 1, rfl, ?_, rfl, (congrArg (fun l => [Row.own 3 1 (some false) true (List.map intP l)]) (show selN (namP w x) k = selN (namP w x) (k + 1) by rw [selN_no (by unfold namP; rw [hge]; intro h; exact absurd (by assumption) (of_decide_eq_true h))]))⟩
    ·omega
    ·omega
  ·try simp only [zq0, zq1, zq2, zq3, zq4, zq5, zq6, zq7, zq8, zq9, zqa, zqb, zqc, zqd, zqe, zqf] at hc2
   refine vc_exit ?_
   refine hK6 _ ?_
   refine vc_seq fun K12 hK12 => ?_
   refine vc_region ?_
   refine vo_move_ref rfl rfl ?_
   refine vo_assign_ref rfl rfl ?_
   refine vo_nil ?_
   refine hK12 _ ?_
   refine vc_expose 2 (by omega) rfl ?_
   refine vc_stM ?_
   refine vc_ret ?_
   change retQ _ _ _ _ _
   refine retQ_sel [] (srows := []) (.inr rfl) hC rfl rfl rfl rfl rfl rfl rfl ?_
   rw [show k = 10 by omega]; exact ⟨_, rfl, rfl⟩

set_option maxHeartbeats 4000000 in
theorem FnExactNamesOf_sat {a : WorldM} {x : Int}  (ha : GW63 a) : SatAt Tryz.prog 3 [.pv false (worldP a), i64 x] [] (fun res rows => res = [bo true] ∧ rows = []) := by
 refine sat_entry_G (rs := [(4, none)]) Tryz.func3 rfl rfl (Nat.le_of_ble_eq_true rfl) (Nat.le_of_ble_eq_true rfl) (resTs1 trivial) fun C hC => ?_
 rw [Tryz.ntmps3]
 replace hC : C.nb = 0 := hC
 refine vc_seq fun K1 hK1 => ?_
 refine vc_region ?_
 refine vo_box rfl rfl ?_
 refine vo_stM ?_
 refine vo_assign_pv rfl rfl ?_
 refine vo_nil ?_
 refine hK1 _ ?_
 refine vc_seq fun K2 hK2 => ?_
 refine vc_region ?_
 refine vo_assign_pv rfl rfl ?_
 refine vo_nil ?_
 refine hK2 _ ?_
 refine vc_seq fun K3 hK3 => ?_
 refine vc_region ?_
 refine vo_load_varS rfl rfl rfl Tryz.underlying26 rfl inf26 sz26 rfl rfl ?_
 refine vo_move_pv rfl rfl ?_
 refine vo_call0 Tryz.func10 rfl rfl rfl rfl (szWorld_sat ha (by omega) (by omega)) ?_
 rintro _ _ ⟨v, hv, rfl, rfl⟩
 refine ⟨rfl, rfl, .inl rfl, ?_⟩
 refine vo_stM ?_
 refine vo_assign_pv rfl rfl ?_
 refine vo_nil ?_
 refine hK3 _ ?_
 refine vc_seq fun K4 hK4 => ?_
 refine vc_seq fun K5 hK5 => ?_
 refine vc_region ?_
 refine vo_move_pv rfl rfl ?_
 refine vo_binI rfl rfl rfl rfl trivial ?_
 refine vo_nil ?_
 refine hK5 _ ?_
 refine vc_cond rfl (fun hc1 => ?_) (fun hc1 => ?_)
 ·try simp only [zq0, zq1, zq2, zq3, zq4, zq5, zq6, zq7, zq8, zq9, zqa, zqb, zqc, zqd, zqe, zqf] at hc1
  refine vc_seq fun K6 hK6 => ?_
  refine vc_region ?_
  refine vo_assign_pv rfl rfl ?_
  refine vo_nil ?_
  refine hK6 _ ?_
  refine vc_ret ?_
  change retQ _ _ _ _ _
  refine retQ_sel [] (srows := []) (.inr rfl) hC rfl rfl rfl rfl rfl rfl rfl ?_
  exact ⟨rfl, rfl⟩
 ·try simp only [zq0, zq1, zq2, zq3, zq4, zq5, zq6, zq7, zq8, zq9, zqa, zqb, zqc, zqd, zqe, zqf] at hc1
  rcases hv with hv | hv
  ·omega
  have hs := hv.2.2
  have hs2 := hs
  obtain ⟨⟨b1, b2⟩, ⟨a1, a2⟩, o1, o2⟩ := hs2
  refine vc_skip ?_
  refine hK4 _ ?_
  refine vc_seq fun K7 hK7 => ?_
  refine vc_region ?_
  refine vo_load_varS rfl rfl rfl Tryz.underlying26 rfl inf26 sz26 rfl rfl ?_
  refine vo_call [] Tryz.func12 rfl rfl rfl rfl rfl rfl rfl (toWorldT_sat hs) ?_
  rintro _ _ ⟨rfl, rfl⟩
  refine ⟨Nat.le_of_ble_eq_true rfl, ⟨rfl, rfl, rfl, rfl⟩, .inl rfl, ?_⟩
  refine vo_stM ?_
  refine vo_move_pv rfl rfl ?_
  refine vo_call [] Tryz.func11 rfl rfl rfl rfl rfl rfl rfl (specNamesOf_sat hs) ?_
  rintro _ _ ⟨nlp, rfl, rfl⟩
  refine ⟨Nat.le_of_ble_eq_true rfl, ⟨rfl, rfl, rfl, rfl⟩, .inr ⟨rfl, rfl⟩, ?_⟩
  refine vo_stM ?_
  refine vo_assign_pv rfl rfl ?_
  refine vo_nil ?_
  refine hK7 _ ?_
  refine vc_seq fun K8 hK8 => ?_
  refine vc_region ?_
  refine vo_load_varS rfl rfl rfl Tryz.underlying26 rfl inf26 sz26 rfl rfl ?_
  refine vo_call [] Tryz.func12 rfl rfl rfl rfl rfl rfl rfl (toWorldT_sat hs) ?_
  rintro _ _ ⟨rfl, rfl⟩
  refine ⟨Nat.le_of_ble_eq_true rfl, ⟨rfl, rfl, rfl, rfl⟩, .inl rfl, ?_⟩
  refine vo_stM ?_
  refine vo_alloc Z33 rfl ?_
  refine vo_stM ?_
  refine vo_store_varG rfl rfl rfl rfl inf33 sz33 rfl ?_
  refine vo_stM ?_
  refine vo_nil ?_
  refine hK8 _ ?_
  refine vc_seq fun K9 hK9 => ?_
  refine vc_region ?_
  refine vo_load_varG rfl rfl rfl Tryz.underlying33 rfl inf33 sz33 rfl ?_
  refine vo_stM ?_
  refine vo_move_pv rfl rfl ?_
  refine vo_call [] Tryz.func13 rfl rfl rfl rfl rfl rfl rfl (namesOwn_sat hs) ?_
  rintro _ _ ⟨nlg, rfl, rfl⟩
  refine ⟨Nat.le_of_ble_eq_true rfl, ⟨rfl, rfl, rfl, rfl⟩, .inr ⟨rfl, rfl⟩, ?_⟩
  refine vo_stM ?_
  refine vo_assign_ref rfl rfl ?_
  refine vo_nil ?_
  refine hK9 _ ?_
  refine vc_seq fun K10 hK10 => ?_
  refine vc_seq fun K11 hK11 => ?_
  refine vc_region ?_
  refine vo_move_ref rfl rfl ?_
  refine vo_move_pv rfl rfl ?_
  refine vo_call0 Tryz.func14 rfl rfl rfl rfl (eqIntS_sat (a := (namM a x)) (b := (namM a x)) (by have := namM_len (w := a) (x := x); omega) (by have := namM_len (w := a) (x := x); omega)) ?_
  rintro _ _ ⟨rfl, rfl⟩
  refine ⟨rfl, rfl, .inr rfl, ?_⟩
  refine vo_stM ?_
  refine vo_not rfl rfl ?_
  refine vo_nil ?_
  refine hK11 _ ?_
  refine vc_cond rfl (fun hc2 => ?_) (fun hc2 => ?_)
  ·try simp only [zq0, zq1, zq2, zq3, zq4, zq5, zq6, zq7, zq8, zq9, zqa, zqb, zqc, zqd, zqe, zqf] at hc2
   refine vc_seq fun K12 hK12 => ?_
   refine vc_region ?_
   refine vo_assign_pv rfl rfl ?_
   refine vo_nil ?_
   refine hK12 _ ?_
   refine vc_ret ?_
   change retQ _ _ _ _ _
   refine retQ_sel [] (srows := []) (.inr rfl) hC rfl rfl rfl rfl rfl rfl rfl ?_
   first | exact ⟨rfl, rfl⟩ | (exfalso; simp_all; done) | (exfalso; omega)
  ·try simp only [zq0, zq1, zq2, zq3, zq4, zq5, zq6, zq7, zq8, zq9, zqa, zqb, zqc, zqd, zqe, zqf] at hc2
   refine vc_skip ?_
   refine hK10 _ ?_
   refine vc_seq fun K13 hK13 => ?_
   refine vc_seq fun K14 hK14 => ?_
   refine vc_draw (by kernel_rfl) ?_
   change VD _ _ _ 5 _ _ _
   refine vd_light 0 rfl rfl rfl (by kernel_rfl) (by kernel_rfl) (by kernel_rfl) (wnt_none rfl) (lt_load_varG rfl rfl Tryz.underlying33 rfl inf33 sz33 rfl) ?_
   refine vd_stM ?_
   refine vd_light 1 rfl rfl rfl (by kernel_rfl) (by kernel_rfl) (by kernel_rfl) (wnt_none rfl) (lt_load_varS rfl rfl Tryz.underlying26 rfl inf26 sz26 rfl rfl) ?_
   refine vd_callR 2 [] rfl rfl (by kernel_rfl) (wnt_none rfl) Tryz.func12 rfl rfl rfl rfl (toWorldT_sat hs) rfl rfl rfl ?_
   rintro _ _ ⟨rfl, rfl⟩
   refine ⟨Nat.le_of_ble_eq_true rfl, ⟨rfl, rfl, rfl, rfl⟩, .inl rfl, ?_⟩
   refine vd_stM ?_
   refine vd_callR 3 [] rfl rfl (by kernel_rfl) (wnt_none rfl) Tryz.func15 rfl rfl rfl rfl (eqWorld_sat hs hs) rfl rfl rfl ?_
   rintro _ _ ⟨rfl, rfl⟩
   refine ⟨Nat.le_of_ble_eq_true rfl, ⟨rfl, rfl, rfl, rfl⟩, .inr ⟨rfl, rfl⟩, ?_⟩
   refine vd_stM ?_
   refine vd_light 4 rfl rfl rfl (by kernel_rfl) (by kernel_rfl) (by kernel_rfl) (wnt_none rfl) (lt_not rfl) ?_
   refine vd_nil (by kernel_rfl) ?_
   refine hK14 _ ?_
   refine vc_cond rfl (fun hc3 => ?_) (fun hc3 => ?_)
   ·try simp only [zq0, zq1, zq2, zq3, zq4, zq5, zq6, zq7, zq8, zq9, zqa, zqb, zqc, zqd, zqe, zqf] at hc3
    refine vc_seq fun K15 hK15 => ?_
    refine vc_region ?_
    refine vo_assign_pv rfl rfl ?_
    refine vo_nil ?_
    refine hK15 _ ?_
    refine vc_ret ?_
    change retQ _ _ _ _ _
    refine retQ_sel [] (srows := []) (.inr rfl) hC rfl rfl rfl rfl rfl rfl rfl ?_
    first | exact ⟨rfl, rfl⟩ | (exfalso; simp_all; done) | (exfalso; omega)
   ·try simp only [zq0, zq1, zq2, zq3, zq4, zq5, zq6, zq7, zq8, zq9, zqa, zqb, zqc, zqd, zqe, zqf] at hc3
    refine vc_skip ?_
    refine hK13 _ ?_
    refine vc_seq fun K16 hK16 => ?_
    refine vc_region ?_
    refine vo_assign_pv rfl rfl ?_
    refine vo_nil ?_
    refine hK16 _ ?_
    refine vc_seq fun K17 hK17 => ?_
    refine vc_region ?_
    refine vo_load_varG rfl rfl rfl Tryz.underlying33 rfl inf33 sz33 rfl ?_
    refine vo_stM ?_
    refine vo_move_pv rfl rfl ?_
    refine vo_inline [1, 2, 6, 8] [(4, none)] Tryz.func16 rfl rfl rfl rfl (Nat.le_of_ble_eq_true rfl) (resTs1 trivial) rfl rfl fun us1 => ?_
    rw [Tryz.ntmps16]
    refine vc_stM ?_
    refine vc_seq fun K18 hK18 => ?_
    refine vc_region ?_
    refine vo_boxG rfl rfl rfl ?_
    refine vo_stM ?_
    refine vo_assign_pv rfl rfl ?_
    refine vo_nil ?_
    refine hK18 _ ?_
    refine vc_seq fun K19 hK19 => ?_
    refine vc_region ?_
    refine vo_fieldAddr_ptr rfl rfl Tryz.underlying33 rfl inf22 (by rw [sz22]; decide) ?_
    try simp only [Nat.zero_add]
    refine vo_load_var rfl rfl rfl Tryz.underlying22 rfl rfl ?_
    refine vo_move_pv rfl rfl ?_
    refine vo_call [4] Tryz.func44 rfl rfl rfl rfl rfl rfl rfl (markIntSS_sat (L := a.bases) (by omega) b2 (by omega)) ?_
    rintro _ _ ⟨w1, L1, ⟨hw1, hx1⟩, rfl, rfl⟩
    refine ⟨Nat.le_of_ble_eq_true rfl, ⟨rfl, rfl, rfl, rfl⟩, .inl rfl, ?_⟩
    refine vo_stM ?_
    refine vo_assign_pv rfl rfl ?_
    refine vo_nil ?_
    refine hK19 _ ?_
    refine vc_seq fun K20 hK20 => ?_
    refine vc_region ?_
    refine vo_fieldAddr_ptr rfl rfl Tryz.underlying33 rfl inf30 (by rw [sz30]; decide) ?_
    try simp only [Nat.zero_add]
    refine vo_load_var rfl rfl rfl Tryz.underlying30 rfl rfl ?_
    refine vo_move_pv rfl rfl ?_
    refine vo_call [5] Tryz.func45 rfl rfl rfl rfl rfl rfl rfl (markAttrSS_sat (L := a.attrs) (by omega) a2 (by omega)) ?_
    rintro _ _ ⟨w2, L2, ⟨hw2, hx2⟩, rfl, rfl⟩
    refine ⟨Nat.le_of_ble_eq_true rfl, ⟨rfl, rfl, rfl, rfl⟩, .inl rfl, ?_⟩
    refine vo_stM ?_
    refine vo_assign_pv rfl rfl ?_
    refine vo_nil ?_
    refine hK20 _ ?_
    refine vc_seq fun K21 hK21 => ?_
    refine vc_region ?_
    refine vo_fieldAddr_ptr rfl rfl Tryz.underlying33 rfl inf31 (by rw [sz31]; decide) ?_
    try simp only [Nat.zero_add]
    refine vo_load_var rfl rfl rfl Tryz.underlying31 rfl rfl ?_
    refine vo_move_pv rfl rfl ?_
    refine vo_call [6] Tryz.func46 rfl rfl rfl rfl rfl rfl rfl (markObjectS_sat (L := a.objs) (by omega) o2 (by omega)) ?_
    rintro _ _ ⟨w3, L3, ⟨hw3, hx3⟩, rfl, rfl⟩
    refine ⟨Nat.le_of_ble_eq_true rfl, ⟨rfl, rfl, rfl, rfl⟩, .inl rfl, ?_⟩
    refine vo_stM ?_
    refine vo_assign_pv rfl rfl ?_
    refine vo_nil ?_
    refine hK21 _ ?_
    refine vc_seq fun K22 hK22 => ?_
    refine vc_region ?_
    refine vo_move_pv rfl rfl ?_
    refine vo_assign_pv rfl rfl ?_
    refine vo_nil ?_
    refine hK22 _ ?_
    refine vc_ret ?_
    refine inQ_ret rfl rfl ?_
    refine vo_stM ?_
    refine vo_assign_pv rfl rfl ?_
    refine vo_nil ?_
    refine hK17 _ ?_
    refine vc_seq fun K23 hK23 => ?_
    refine vc_seq fun K24 hK24 => ?_
    refine vc_region ?_
    refine vo_move_pv rfl rfl ?_
    refine vo_binI rfl rfl rfl rfl trivial ?_
    refine vo_move_pv rfl rfl ?_
    refine vo_split 41 rfl (fun hg4 => ?_) (fun hg4 => ?_)
    ·try simp only [zq0, zq1, zq2, zq3, zq4, zq5, zq6, zq7, zq8, zq9, zqa, zqb, zqc, zqd, zqe, zqf] at hg4
     refine vo_guard_off rfl rfl rfl rfl rfl ?_
     refine vo_guard_off rfl rfl rfl rfl rfl ?_
     refine vo_guard_off rfl rfl rfl rfl rfl ?_
     refine vo_guard_off rfl rfl rfl rfl rfl ?_
     refine vo_pick_t rfl rfl ?_
     refine vo_nil ?_
     refine hK24 _ ?_
     refine vc_cond_t rfl ?_
     refine vc_seq fun K25 hK25 => ?_
     refine vc_region ?_
     refine vo_assign_pv rfl rfl ?_
     refine vo_nil ?_
     refine hK25 _ ?_
     refine vc_ret ?_
     change retQ _ _ _ _ _
     refine retQ_sel [] (srows := []) (.inr rfl) hC rfl rfl rfl rfl rfl rfl rfl ?_
     first | exact ⟨rfl, rfl⟩ | (exfalso; simp_all; done) | (exfalso; omega)
    ·try simp only [zq0, zq1, zq2, zq3, zq4, zq5, zq6, zq7, zq8, zq9, zqa, zqb, zqc, zqd, zqe, zqf] at hg4
     refine vo_guard_on rfl rfl rfl ?_
     refine vo_move_ref rfl rfl ?_
     refine vo_guard_on rfl rfl rfl ?_
     refine vo_move_pv rfl rfl ?_
     refine vo_guard_on rfl rfl rfl ?_
     refine vo_call0 Tryz.func14 rfl rfl rfl rfl (eqIntS_sat (a := (namM a x)) (b := (namM a x)) (by have := namM_len (w := a) (x := x); omega) (by have := namM_len (w := a) (x := x); omega)) ?_
     rintro _ _ ⟨rfl, rfl⟩
     refine ⟨rfl, rfl, .inr rfl, ?_⟩
     refine vo_stM ?_
     refine vo_guard_on rfl rfl rfl ?_
     refine vo_not rfl rfl ?_
     refine vo_pick_f rfl rfl ?_
     refine vo_nil ?_
     refine hK24 _ ?_
     refine vc_cond rfl (fun hc5 => ?_) (fun hc5 => ?_)
     ·try simp only [zq0, zq1, zq2, zq3, zq4, zq5, zq6, zq7, zq8, zq9, zqa, zqb, zqc, zqd, zqe, zqf] at hc5
      refine vc_seq fun K26 hK26 => ?_
      refine vc_region ?_
      refine vo_assign_pv rfl rfl ?_
      refine vo_nil ?_
      refine hK26 _ ?_
      refine vc_ret ?_
      change retQ _ _ _ _ _
      refine retQ_sel [] (srows := []) (.inr rfl) hC rfl rfl rfl rfl rfl rfl rfl ?_
      first | exact ⟨rfl, rfl⟩ | (exfalso; simp_all; done) | (exfalso; omega)
     ·try simp only [zq0, zq1, zq2, zq3, zq4, zq5, zq6, zq7, zq8, zq9, zqa, zqb, zqc, zqd, zqe, zqf] at hc5
      refine vc_skip ?_
      refine hK23 _ ?_
      refine vc_seq fun K27 hK27 => ?_
      refine vc_region ?_
      refine vo_assign_pv rfl rfl ?_
      refine vo_nil ?_
      refine hK27 _ ?_
      refine vc_seq fun K28 hK28 => ?_
      refine vc_region ?_
      refine vo_move_ref rfl rfl ?_
      refine vo_move_pv rfl rfl ?_
      refine vo_call [8] Tryz.func17 rfl rfl rfl rfl rfl rfl rfl (markIntS_sat (a := (namM a x)) (by have := namM_len (w := a) (x := x); omega) (by omega)) ?_
      rintro _ _ ⟨_, rfl, -, -, rfl, rfl⟩
      refine ⟨Nat.le_of_ble_eq_true rfl, ⟨rfl, rfl, rfl, rfl⟩, .inl rfl, ?_⟩
      refine vo_stM ?_
      refine vo_assign_pv rfl rfl ?_
      refine vo_nil ?_
      refine hK28 _ ?_
      refine vc_seq fun K29 hK29 => ?_
      refine vc_region ?_
      refine vo_assign_pv rfl rfl ?_
      refine vo_nil ?_
      refine hK29 _ ?_
      refine vc_seq fun K30 hK30 => ?_
      refine vc_region ?_
      refine vo_move_ref rfl rfl ?_
      refine vo_move_pv rfl rfl ?_
      refine vo_call0 Tryz.func18 rfl rfl rfl rfl (heldIntS_sat (k := 1) (n := (namM a x).length) (by have := namM_len (w := a) (x := x); omega) (by omega)) ?_
      rintro _ _ ⟨rfl, rfl⟩
      refine ⟨rfl, rfl, .inr rfl, ?_⟩
      refine vo_stM ?_
      refine vo_assign_pv rfl rfl ?_
      refine vo_nil ?_
      refine hK30 _ ?_
      refine vc_seq fun K31 hK31 => ?_
      refine vc_seq fun K32 hK32 => ?_
      refine vc_region ?_
      refine vo_move_pv rfl rfl ?_
      refine vo_binI rfl rfl rfl rfl trivial ?_
      refine vo_nil ?_
      refine hK32 _ ?_
      refine vc_cond rfl (fun hc6 => ?_) (fun hc6 => ?_)
      ·try simp only [zq0, zq1, zq2, zq3, zq4, zq5, zq6, zq7, zq8, zq9, zqa, zqb, zqc, zqd, zqe, zqf] at hc6
       refine vc_seq fun K33 hK33 => ?_
       refine vc_region ?_
       refine vo_assign_pv rfl rfl ?_
       refine vo_nil ?_
       refine hK33 _ ?_
       refine vc_ret ?_
       change retQ _ _ _ _ _
       refine retQ_sel [] (srows := []) (.inr rfl) hC rfl rfl rfl rfl rfl rfl rfl ?_
       first | exact ⟨rfl, rfl⟩ | (exfalso; simp_all; done) | (exfalso; omega)
      ·try simp only [zq0, zq1, zq2, zq3, zq4, zq5, zq6, zq7, zq8, zq9, zqa, zqb, zqc, zqd, zqe, zqf] at hc6
       refine vc_skip ?_
       refine hK31 _ ?_
       refine vc_seq fun K34 hK34 => ?_
       refine vc_seq fun K35 hK35 => ?_
       refine vc_region ?_
       refine vo_move_pv rfl rfl ?_
       refine vo_move_pv rfl rfl ?_
       refine vo_binI rfl rfl rfl rfl trivial ?_
       refine vo_nil ?_
       refine hK35 _ ?_
       refine vc_cond rfl (fun hc7 => ?_) (fun hc7 => ?_)
       ·try simp only [zq0, zq1, zq2, zq3, zq4, zq5, zq6, zq7, zq8, zq9, zqa, zqb, zqc, zqd, zqe, zqf] at hc7
        refine vc_seq fun K36 hK36 => ?_
        refine vc_region ?_
        refine vo_assign_pv rfl rfl ?_
        refine vo_nil ?_
        refine hK36 _ ?_
        refine vc_ret ?_
        change retQ _ _ _ _ _
        refine retQ_sel [] (srows := []) (.inr rfl) hC rfl rfl rfl rfl rfl rfl rfl ?_
        first | exact ⟨rfl, rfl⟩ | (exfalso; simp_all; done) | (exfalso; omega)
       ·try simp only [zq0, zq1, zq2, zq3, zq4, zq5, zq6, zq7, zq8, zq9, zqa, zqb, zqc, zqd, zqe, zqf] at hc7
        refine vc_skip ?_
        refine hK34 _ ?_
        refine vc_seq fun K37 hK37 => ?_
        refine vc_region ?_
        refine vo_load_varS rfl rfl rfl Tryz.underlying26 rfl inf26 sz26 rfl rfl ?_
        refine vo_call [] Tryz.func12 rfl rfl rfl rfl rfl rfl rfl (toWorldT_sat hs) ?_
        rintro _ _ ⟨rfl, rfl⟩
        refine ⟨Nat.le_of_ble_eq_true rfl, ⟨rfl, rfl, rfl, rfl⟩, .inl rfl, ?_⟩
        refine vo_stM ?_
        refine vo_move_pv rfl rfl ?_
        refine vo_call [] Tryz.func13 rfl rfl rfl rfl rfl rfl rfl (namesOwn_sat hs) ?_
        rintro _ _ ⟨nlg, rfl, rfl⟩
        refine ⟨Nat.le_of_ble_eq_true rfl, ⟨rfl, rfl, rfl, rfl⟩, .inr ⟨rfl, rfl⟩, ?_⟩
        refine vo_stM ?_
        refine vo_assign_ref rfl rfl ?_
        refine vo_nil ?_
        refine hK37 _ ?_
        refine vc_seq fun K38 hK38 => ?_
        refine vc_seq fun K39 hK39 => ?_
        refine vc_region ?_
        refine vo_move_ref rfl rfl ?_
        refine vo_move_pv rfl rfl ?_
        refine vo_call0 Tryz.func14 rfl rfl rfl rfl (eqIntS_sat (a := (namM a x)) (b := (namM a x)) (by have := namM_len (w := a) (x := x); omega) (by have := namM_len (w := a) (x := x); omega)) ?_
        rintro _ _ ⟨rfl, rfl⟩
        refine ⟨rfl, rfl, .inr rfl, ?_⟩
        refine vo_stM ?_
        refine vo_not rfl rfl ?_
        refine vo_nil ?_
        refine hK39 _ ?_
        refine vc_cond rfl (fun hc8 => ?_) (fun hc8 => ?_)
        ·try simp only [zq0, zq1, zq2, zq3, zq4, zq5, zq6, zq7, zq8, zq9, zqa, zqb, zqc, zqd, zqe, zqf] at hc8
         refine vc_seq fun K40 hK40 => ?_
         refine vc_region ?_
         refine vo_assign_pv rfl rfl ?_
         refine vo_nil ?_
         refine hK40 _ ?_
         refine vc_ret ?_
         change retQ _ _ _ _ _
         refine retQ_sel [] (srows := []) (.inr rfl) hC rfl rfl rfl rfl rfl rfl rfl ?_
         first | exact ⟨rfl, rfl⟩ | (exfalso; simp_all; done) | (exfalso; omega)
        ·try simp only [zq0, zq1, zq2, zq3, zq4, zq5, zq6, zq7, zq8, zq9, zqa, zqb, zqc, zqd, zqe, zqf] at hc8
         refine vc_skip ?_
         refine hK38 _ ?_
         refine vc_seq fun K41 hK41 => ?_
         refine vc_region ?_
         refine vo_assign_pv rfl rfl ?_
         refine vo_nil ?_
         refine hK41 _ ?_
         refine vc_seq fun K42 hK42 => ?_
         refine vc_region ?_
         refine vo_move_ref rfl rfl ?_
         refine vo_move_pv rfl rfl ?_
         refine vo_call0 Tryz.func18 rfl rfl rfl rfl (heldIntS_sat (k := 1) (n := (namM a x).length) (by have := namM_len (w := a) (x := x); omega) (by omega)) ?_
         rintro _ _ ⟨rfl, rfl⟩
         refine ⟨rfl, rfl, .inr rfl, ?_⟩
         refine vo_stM ?_
         refine vo_assign_pv rfl rfl ?_
         refine vo_nil ?_
         refine hK42 _ ?_
         refine vc_seq fun K43 hK43 => ?_
         refine vc_seq fun K44 hK44 => ?_
         refine vc_region ?_
         refine vo_move_pv rfl rfl ?_
         refine vo_binI rfl rfl rfl rfl trivial ?_
         refine vo_nil ?_
         refine hK44 _ ?_
         refine vc_cond rfl (fun hc9 => ?_) (fun hc9 => ?_)
         ·try simp only [zq0, zq1, zq2, zq3, zq4, zq5, zq6, zq7, zq8, zq9, zqa, zqb, zqc, zqd, zqe, zqf] at hc9
          refine vc_seq fun K45 hK45 => ?_
          refine vc_region ?_
          refine vo_assign_pv rfl rfl ?_
          refine vo_nil ?_
          refine hK45 _ ?_
          refine vc_ret ?_
          change retQ _ _ _ _ _
          refine retQ_sel [] (srows := []) (.inr rfl) hC rfl rfl rfl rfl rfl rfl rfl ?_
          first | exact ⟨rfl, rfl⟩ | (exfalso; simp_all; done) | (exfalso; omega)
         ·try simp only [zq0, zq1, zq2, zq3, zq4, zq5, zq6, zq7, zq8, zq9, zqa, zqb, zqc, zqd, zqe, zqf] at hc9
          refine vc_skip ?_
          refine hK43 _ ?_
          refine vc_seq fun K46 hK46 => ?_
          refine vc_seq fun K47 hK47 => ?_
          refine vc_region ?_
          refine vo_move_pv rfl rfl ?_
          refine vo_move_pv rfl rfl ?_
          refine vo_binI rfl rfl rfl rfl trivial ?_
          refine vo_nil ?_
          refine hK47 _ ?_
          refine vc_cond rfl (fun hc10 => ?_) (fun hc10 => ?_)
          ·try simp only [zq0, zq1, zq2, zq3, zq4, zq5, zq6, zq7, zq8, zq9, zqa, zqb, zqc, zqd, zqe, zqf] at hc10
           refine vc_seq fun K48 hK48 => ?_
           refine vc_region ?_
           refine vo_assign_pv rfl rfl ?_
           refine vo_nil ?_
           refine hK48 _ ?_
           refine vc_ret ?_
           change retQ _ _ _ _ _
           refine retQ_sel [] (srows := []) (.inr rfl) hC rfl rfl rfl rfl rfl rfl rfl ?_
           first | exact ⟨rfl, rfl⟩ | (exfalso; simp_all; done) | (exfalso; omega)
          ·try simp only [zq0, zq1, zq2, zq3, zq4, zq5, zq6, zq7, zq8, zq9, zqa, zqb, zqc, zqd, zqe, zqf] at hc10
           refine vc_skip ?_
           refine hK46 _ ?_
           refine vc_seq fun K49 hK49 => ?_
           refine vc_region ?_
           refine vo_assign_pv rfl rfl ?_
           refine vo_nil ?_
           refine hK49 _ ?_
           refine vc_ret ?_
           change retQ _ _ _ _ _
           refine retQ_sel [] (srows := []) (.inr rfl) hC rfl rfl rfl rfl rfl rfl rfl ?_
           first | exact ⟨rfl, rfl⟩ | (exfalso; simp_all; done) | (exfalso; omega)

end Go.Vl
