/- Functions that hand back structs: the way in, and what is handed back. -/
import Derived.Test.YtmjbklmjehjpoacVlS
namespace Go.Vl
set_option linter.unusedVariables false
set_option linter.unusedSimpArgs false
open Go.RowKit

/-- What a result holds at a function's end. -/
def resSV (s : St) : Nat × Option (Nat × Nat) → SV
  | (t, none) => look s.env t
  | (a, some _) => match look s.env a with
    | .ptr id 0 0 0 => match s.rows[id]? with
      | some (.var _ cs) => match collectC cs with
        | some (f, ps) => .pv f (.agg ps)
        | none => .any
      | _ => .any
    | _ => .any

def resVar : Nat × Option (Nat × Nat) → ResultVar
  | (t, none) => .tmp t
  | (a, some (T, _)) => .cell a T

/-- Is the result there? -/
def resOK (s : St) : Nat × Option (Nat × Nat) → Bool
  | (_, none) => true
  | (a, some (_, n)) => match look s.env a with
    | .ptr id 0 0 0 => match s.rows[id]? with
      | some (.var _ cs) => Nat.beq cs.length n && (collectC cs).isSome
      | _ => false
    | _ => false

/-- The types of the results that lie in memory. -/
def resT (P : Program) : Nat × Option (Nat × Nat) → Prop
  | (_, none) => True
  | (_, some (T, n)) => ∃ D inf, P.underlying T = some D ∧ D.isRow = true ∧ P.info? T = some inf ∧ inf.size = n

def resM (tmps : Array Value) : ResultVar → Sem Value
  | .tmp t => pure (tmps.getD t undef)
  | .cell a t => do loadVar t (← asAddr (tmps.getD a undef))

theorem results_eq (fn : Func) (tmps : Array Value) : results fn tmps = (do
  let vs ← fn.results.mapM (resM tmps)
  pure (if h : vs.size = 1 then vs[0] else .tuple vs)) := by
  unfold results
  congr 1

theorem ElInfo.of_struct {P : Program} {T el by' : Nat} {zs : List PV} (hT : P.underlying T = some (.slice el)) (hZ : StZ P el zs) (hb : ∀ i, P.info? el = some i → i.bytes = by') (h0 : zs ≠ []) : ElInfo P T el zs.length by' (.agg zs) := by
  obtain ⟨_, i, zc, hi, hs, hz, hr⟩ := hZ
  have h := hr default (fun _ => False)
  cases h with
  | agg _ _ hl h1 h =>
    exact ⟨hT, ⟨i, .agg zc, hi, hs, hb i hi, hz, hl, hr⟩, ⟨rfl, h1⟩, List.length_pos_iff.2 h0⟩

section
variable {P : Program}

theorem run_res1 {C : Ctx} {s : St} {m : Nat → MV} {a : Act} {w : World} (h : SimM C s m a w) {r : Nat × Option (Nat × Nat)} (hT : resT P r) (hok : resOK s r = true) :
    ∃ v, (resM a.tmps (resVar r)).run P w = .ok v w ∧ RS w (Gd C s.rows m w) m s.rows.length (resSV s r) v := by
  obtain ⟨t, _ | ⟨T, n⟩⟩ := r
  · exact ⟨_, rfl, h.env t⟩
  · obtain ⟨D, inf, hu, hD, hinf, hsz⟩ := hT
    simp only [resOK] at hok
    split at hok
    · rename_i id hid
      split at hok
      · rename_i R cs hrow
        simp only [Bool.and_eq_true] at hok
        obtain ⟨hl, hc⟩ := hok
        have hl := Nat.eq_of_beq_eq_true hl
        cases hcc : collectC cs with
        | none => rw [hcc] at hc; cases hc
        | some fp =>
          obtain ⟨f, ps⟩ := fp
          have hg : getO s.env (.tmp t) = .ptr id 0 0 0 := hid
          have hcc2 : collectC ((cs.drop (0 * 0 + 0)).take n) = some (f, ps) := by
            rw [show 0 * 0 + 0 = 0 from rfl, List.drop_zero, List.take_of_length_le (by omega)]; exact hcc
          obtain ⟨vs, h1, h2⟩ := load_cells (P := P) (n := n) h hg hrow hu hD hinf hsz (by omega) hcc2
          obtain ⟨b, cur, hv, _⟩ := h.var hg hrow
          have hv2 : a.tmps.getD t undef = .pointer (some ⟨b, 0, none⟩) := hv
          refine ⟨.agg vs, ?_, ?_⟩
          · have := h1 w (ExtW.refl w)
            have e : a.eval (.tmp t) = .pointer (some ⟨b, 0, none⟩) := hv
            rw [e] at this
            simp only [resVar, resM, hv2]
            simpa [Instr.loadAt, Instr.sureAddr, asAddr] using this
          · simp only [resSV, hid, hrow, hcc]
            exact .pv _ _ _ h2
      · cases hok
    · cases hok

theorem run_resA {C : Ctx} {s : St} {m : Nat → MV} {a : Act} {w : World} (h : SimM C s m a w) {fn : Func} {rs : List (Nat × Option (Nat × Nat))} (hr : fn.results = (rs.map resVar).toArray) (hl : rs.length ≤ 3)
    (hT : ∀ r ∈ rs, resT P r) (hok : rs.all (resOK s) = true) :
    ∃ us : Array Value, (results fn a.tmps).run P w = .ok (pack us) w ∧ us.size = rs.length ∧ ∀ (j : Nat) (r : Nat × Option (Nat × Nat)), rs[j]? = some r → RS w (Gd C s.rows m w) m s.rows.length (resSV s r) (us.getD j undef) := by
  rw [results_eq, hr]
  rw [List.all_eq_true] at hok
  match rs, hl with
  | [], _ => exact ⟨#[], by simp [pack], rfl, fun j r hr => by simp at hr⟩
  | [r1], _ =>
    obtain ⟨v1, h1, k1⟩ := run_res1 (P := P) h (hT r1 (by simp)) (hok r1 (by simp))
    refine ⟨#[v1], by simp [h1, pack], rfl, fun j r hr => ?_⟩
    match j, hr with
    | 0, hr => cases hr; exact k1
  | [r1, r2], _ =>
    obtain ⟨v1, h1, k1⟩ := run_res1 (P := P) h (hT r1 (by simp)) (hok r1 (by simp))
    obtain ⟨v2, h2, k2⟩ := run_res1 (P := P) h (hT r2 (by simp)) (hok r2 (by simp))
    refine ⟨#[v1, v2], by simp [h1, h2, pack], rfl, fun j r hr => ?_⟩
    match j, hr with
    | 0, hr => cases hr; exact k1
    | 1, hr => cases hr; exact k2
  | [r1, r2, r3], _ =>
    obtain ⟨v1, h1, k1⟩ := run_res1 (P := P) h (hT r1 (by simp)) (hok r1 (by simp))
    obtain ⟨v2, h2, k2⟩ := run_res1 (P := P) h (hT r2 (by simp)) (hok r2 (by simp))
    obtain ⟨v3, h3, k3⟩ := run_res1 (P := P) h (hT r3 (by simp)) (hok r3 (by simp))
    refine ⟨#[v1, v2, v3], by simp [h1, h2, h3, pack], rfl, fun j r hr => ?_⟩
    match j, hr with
    | 0, hr => cases hr; exact k1
    | 1, hr => cases hr; exact k2
    | 2, hr => cases hr; exact k3

theorem resTs1 {r1 : Nat × Option (Nat × Nat)} (h1 : resT P r1) : ∀ r ∈ [r1], resT P r := by simp [h1]
theorem resTs2 {r1 r2 : Nat × Option (Nat × Nat)} (h1 : resT P r1) (h2 : resT P r2) : ∀ r ∈ [r1, r2], resT P r := by simp [h1, h2]
theorem resTs3 {r1 r2 r3 : Nat × Option (Nat × Nat)} (h1 : resT P r1) (h2 : resT P r2) (h3 : resT P r3) : ∀ r ∈ [r1, r2, r3], resT P r := by simp [h1, h2, h3]
/-- What is handed back at such a function's end: values alone; no new rows. -/
def retS (rs : List (Nat × Option (Nat × Nat))) (k : Nat) (R : List SV → List Row → Prop) (e : Go.Exit) (s : St) : Prop :=
  (e = .normal ∨ e = .ret) ∧ (k ≤ s.rows.length ∧ (rs.map (resSV s)).all (SV.bdd k) = true ∧ (s.rows.take k).all (Row.bdd k) = true ∧ rs.all (resOK s) = true) ∧ R (rs.map (resSV s)) (s.rows.take k)

theorem retS_mk {rs : List (Nat × Option (Nat × Nat))} {k : Nat} {R : List SV → List Row → Prop} {s : St} (h1 : Nat.ble k s.rows.length = true) (h2 : (rs.map (resSV s)).all (SV.bdd k) = true) (h3 : (s.rows.take k).all (Row.bdd k) = true)
    (h4 : rs.all (resOK s) = true) (hR : R (rs.map (resSV s)) (s.rows.take k)) : retS rs k R .ret s := ⟨.inr rfl, ⟨Nat.le_of_ble_eq_true h1, h2, h3, h4⟩, hR⟩

theorem sat_entry_s {f : FuncId} {fn : Func} {c : Code} {args : List SV} {rows : List Row} {R : List SV → List Row → Prop} {rs : List (Nat × Option (Nat × Nat))} (hf : P.funcs[f]? = some fn) (hb : fn.body = some c)
    (hr : fn.results = (rs.map resVar).toArray) (hl : rs.length ≤ 3) (hn : args.length ≤ fn.ntmps) (hT : ∀ r ∈ rs, resT P r)
    (h : ∀ C : Ctx, C.nb = rows.length → VC P C c (retS rs rows.length R) ⟨fn.ntmps, enumE 0 args, rows⟩) : SatAt P f args rows R := by
  intro C m vals hnb hA hv hs
  refine calls_of_wp hf hb ?_
  have hs2 : SimM C ⟨fn.ntmps, enumE 0 args, rows⟩ m { tmps := vals ++ Array.replicate (fn.ntmps - vals.size) undef, defers := [] } C.w0 := by
    refine { hs with size := ?_, env := fun t => ?_, defs := rfl }
    · simp; omega
    · have := hs.env t
      show RS _ _ _ _ (look (enumE 0 args) t) _
      change RS _ _ _ _ (look (enumE 0 args) t) _ at this
      by_cases ht : t < vals.size
      · have e : (vals ++ Array.replicate (fn.ntmps - vals.size) undef).getD t undef = vals.getD t undef := by
          simp [Array.getD, ht]
          intro hh; omega
        rw [e]
        exact this
      · have e : look (enumE 0 args) t = .any := by
          rw [look_enumE]
          simp
          rw [List.getElem?_eq_none (by omega)]
          rfl
        rw [e]
        exact .any _
  refine wp_mono (h C hnb _ _ ⟨m, hs2⟩) ?_
  rintro e a w' ⟨s', ⟨m', hs'⟩, he, ⟨h1, h2, h3, h4⟩, hR⟩
  obtain ⟨us, hrun, hul, hus⟩ := run_resA (P := P) hs' hr hl hT h4
  have key : ∃ v, (results fn a.tmps).run P w' = .ok v w' ∧ (∃ (us : Array Value) (res : List SV) (rows' : List Row) (m' : Nat → MV), Ending.returned v = .returned (pack us) ∧ us.size = res.length ∧
      SimM C ⟨us.size, enumE 0 res, rows'⟩ m' ⟨us, []⟩ w' ∧ R res rows') := by
    refine ⟨_, hrun, us, rs.map (resSV s'), s'.rows.take rows.length, m', rfl, by simp [hul], ?_, hR⟩
    have := hs'.forget rows.length (by omega) h1 [] (fun t => .inl rfl) h3
    refine { this with size := rfl, defs := rfl, env := fun t => ?_ }
    show RS _ _ _ _ (look (enumE 0 (rs.map (resSV s'))) t) _
    rw [look_enumE]
    simp only [Nat.zero_le, if_true, Nat.sub_zero]
    rcases Nat.lt_or_ge t rs.length with ht | ht
    · simp only [List.getElem?_map, List.getElem?_eq_getElem ht, Option.map_some, Option.getD_some]
      have hh := hus t _ (List.getElem?_eq_getElem ht)
      have hG : ∀ f b, Gd C s'.rows m' w' f b → Gd C (s'.rows.take rows.length) m' w' f b ∧ w'.heap[b]? = w'.heap[b]? :=
        Gd.step (fun _ => False) (Nat.le_refl _) (fun _ _ _ => rfl) (fun _ hf => hf.elim) (fun b _ ⟨j, hl, hbk⟩ => ⟨j, (liveAt_take hl).2, hbk⟩)
      have hlen : (s'.rows.take rows.length).length = rows.length := by simp; omega
      rw [hlen]
      refine (hh.mono (N' := s'.rows.length) (m' := m') hG (Nat.le_refl _) (fun _ _ => rfl)).shrink ?_
      rw [List.all_eq_true] at h2
      exact h2 _ (List.mem_map.2 ⟨rs[t], List.getElem_mem ht, rfl⟩)
    · simp only [List.getElem?_map, List.getElem?_eq_none ht, Option.map_none, Option.getD_none]
      exact .any _
  obtain ⟨v, hv1, hv2⟩ := key
  rcases he with rfl | rfl
  · exact ⟨hs'.defs, v, hv1, hv2⟩
  · exact ⟨hs'.defs, v, hv1, hv2⟩
end
end Go.Vl
