/- Loops, calls of functions by what they hand back, and the way into a function. -/
import Derived.Test.YtmjbklmjehjpoacVlOps3
import Derived.Deep.LoopGhost
namespace Go.Vl
set_option linter.unusedVariables false
set_option linter.unusedSimpArgs false
open Go.RowKit

def SV.bdd (k : Nat) : SV → Bool
  | .ref i => decide (i < k)
  | .ptr i _ _ _ => decide (i < k)
  | .tup _ => false
  | _ => true

def Row.bdd (k : Nat) : Row → Bool
  | .var _ cs => cs.all (SV.bdd k)
  | _ => true

theorem RS.shrink {w : World} {G : Bool → Nat → Prop} {m : Nat → MV} {N k : Nat} {sv : SV} {v : Value} (h : RS w G m N sv v) (hb : sv.bdd k = true) : RS w G m k sv v := by
  cases h with
  | any v => exact .any v
  | val u => exact .val _
  | und => exact .und
  | pv fr p v h => exact .pv fr p v h
  | ref i hi => exact .ref i (by simpa [SV.bdd] using hb)
  | ptr i e q o b hi h => exact .ptr i e q o b (by simpa [SV.bdd] using hb) h
  | adr fr cs a f hs hg h1 hc hr => exact .adr fr cs a f hs hg h1 hc hr
  | tup vs us hl h => simp [SV.bdd] at hb

theorem liveAt_take {rows : List Row} {k id : Nat} (h : liveAt (rows.take k) id) : id < k ∧ liveAt rows id := by
  obtain ⟨r, hr, hv⟩ := h
  rw [List.getElem?_take] at hr
  split at hr
  · rename_i hlt; exact ⟨hlt, r, hr, hv⟩
  · cases hr

/-- Slots and rows are forgotten. -/
theorem SimM.forget {C : Ctx} {s : St} {m : Nat → MV} {a : Act} {w : World} (h : SimM C s m a w) (k : Nat) (hk : C.nb ≤ k) (hkl : k ≤ s.rows.length) (env : List (Nat × SV))
    (henv : ∀ t, look env t = .any ∨ (look env t = look s.env t ∧ (look env t).bdd k = true)) (hrows : (s.rows.take k).all (Row.bdd k) = true) :
    SimM C ⟨s.n, env, s.rows.take k⟩ m a w := by
  have hlen : (s.rows.take k).length = k := by simp; omega
  have hG : ∀ f b, Gd C s.rows m w f b → Gd C (s.rows.take k) m w f b ∧ w.heap[b]? = w.heap[b]? :=
    Gd.step (fun _ => False) (Nat.le_refl _) (fun _ _ _ => rfl) (fun _ hf => hf.elim) (fun b _ ⟨j, hl, hbk⟩ => ⟨j, (liveAt_take hl).2, hbk⟩)
  exact {
    defs := h.defs
    size := h.size
    os := h.os
    tape := h.tape
    output := h.output
    hsz := h.hsz
    old := h.old
    bor := h.bor
    nbl := by show C.nb ≤ (s.rows.take k).length; omega
    newb := fun j b hj hl hbk => h.newb j b hj (liveAt_take hl).2 hbk
    dist := fun i j b hi hj hbi hbj => h.dist i j b (liveAt_take hi).2 (liveAt_take hj).2 hbi hbj
    rows := fun j q hq => by
      change (s.rows.take k)[j]? = some q at hq
      have hbd : q.bdd k = true := by
        rw [List.all_eq_true] at hrows
        exact hrows q (List.mem_of_getElem? hq)
      rw [List.getElem?_take] at hq
      split at hq
      · rename_i hlt
        have h0 := h.rows j q hq
        show RowOK w (Gd C (s.rows.take k) m w) m (s.rows.take k).length (m j) q
        rw [hlen]
        have := RowOK.mono (N' := s.rows.length) (m' := m) hG (Nat.le_refl _) (fun _ _ => rfl) h0 (fun _ _ _ => rfl)
        generalize m j = v at *
        cases this with
        | dead v => exact .dead v
        | own v t e nl fr xs vs hown h1 h2 hw hr => exact .own v t e nl fr xs vs hown h1 h2 hw hr
        | var b t cs cur hbk hl hr h1 =>
          refine .var b t cs cur hbk hl (fun i c u hc hu => (hr i c u hc hu).shrink ?_) h1
          simp only [Row.bdd, List.all_eq_true] at hbd
          exact hbd c (List.mem_of_getElem? hc)
        | tree mv t e nl h xs vals Sf hown h1 h2 hw hrr hd hn hz hS hkn => exact .tree _ t e nl h xs vals Sf hown h1 h2 hw hrr hd hn hz hS hkn
      · cases hq
    env := fun t => by
      show RS w (Gd C (s.rows.take k) m w) m (s.rows.take k).length (look env t) _
      rw [hlen]
      rcases henv t with e | ⟨e, hb⟩
      · rw [e]; exact .any _
      · rw [e] at hb ⊢
        exact ((h.env t).mono (N' := s.rows.length) (m' := m) hG (Nat.le_refl _) (fun _ _ => rfl)).shrink hb }

theorem look_zip (f : Nat → SV) (k : Nat) : ∀ (L : List Nat) (t : Nat), (L.map f).all (SV.bdd k) = true →
    look (L.zip (L.map f)) t = .any ∨ (look (L.zip (L.map f)) t = f t ∧ (look (L.zip (L.map f)) t).bdd k = true)
  | [], t, _ => .inl rfl
  | u :: L, t, hall => by
    simp only [List.map_cons, List.all_cons, Bool.and_eq_true] at hall
    simp only [List.map_cons, List.zip_cons_cons, look_cons]
    split
    · rename_i e; subst e; exact .inr ⟨rfl, hall.1⟩
    · exact look_zip f k L t hall.2

section
variable {P : Program} {C : Ctx} {Q : Go.Exit → St → Prop} {s : St}

/-- What a loop's round must come to. -/
def again (N : Nat) (L : List Nat) (k : Nat) (I : Nat → List SV → List Row → Prop) (n : Nat) (s' : St) : Prop :=
  (s'.n = N ∧ k ≤ s'.rows.length ∧ (L.map fun t => look s'.env t).all (SV.bdd k) = true ∧ (s'.rows.take k).all (Row.bdd k) = true) ∧ ∃ n', n' < n ∧ I n' (L.map fun t => look s'.env t) (s'.rows.take k)

/-- A loop: L are the slots that are alive at its head, I what holds of them and of the rows, by a number that goes down. -/
theorem vc_loop {c : Code} (L : List Nat) (I : Nat → List SV → List Row → Prop) (n0 : Nat) (hnb : C.nb ≤ s.rows.length)
    (hb0 : (L.map fun t => look s.env t).all (SV.bdd s.rows.length) = true ∧ s.rows.all (Row.bdd s.rows.length) = true)
    (h0 : I n0 (L.map fun t => look s.env t) s.rows)
    (hround : ∀ n vs rows, vs.length = L.length → rows.length = s.rows.length → I n vs rows → VC P C c (thn (again s.n L s.rows.length I n) Q) ⟨s.n, L.zip vs, rows⟩) : VC P C (.loop c) Q s := by
  intro a w ⟨m, hs⟩
  refine wp_loop_ghost (fun n a' w' => ∃ vs rows, vs.length = L.length ∧ rows.length = s.rows.length ∧ I n vs rows ∧ Sim C ⟨s.n, L.zip vs, rows⟩ a' w') n0 ?_ ?_
  · refine ⟨_, _, by simp, rfl, h0, m, ?_⟩
    have := hs.forget s.rows.length hnb (Nat.le_refl _) (L.zip (L.map fun t => look s.env t)) (fun t => look_zip (look s.env) _ L t hb0.1) (by simpa using hb0.2)
    simpa using this
  · rintro n a' w' ⟨vs, rows, hv, hr, hI, hsim⟩
    refine wp_mono (hround n vs rows hv hr hI a' w' hsim) ?_
    rintro e a2 w2 ⟨s2, ⟨m2, hs2⟩, hq⟩
    cases e with
    | normal =>
      obtain ⟨⟨hsn, h1, h2, h3⟩, n', hn, hI'⟩ := hq
      refine ⟨n', hn, _, _, by simp, by simp; omega, hI', m2, ?_⟩
      rw [← hsn]
      exact hs2.forget s.rows.length hnb h1 _ (fun t => look_zip (look s2.env) _ L t h2) h3
    | _ => exact ⟨s2, ⟨m2, hs2⟩, hq⟩

def enumE : Nat → List SV → List (Nat × SV)
  | _, [] => []
  | k, v :: vs => (k, v) :: enumE (k + 1) vs

theorem look_enumE (vs : List SV) : ∀ k t, look (enumE k vs) t = if k ≤ t then (vs[t - k]?).getD .any else .any := by
  induction vs with
  | nil => intro k t; simp [enumE, look]
  | cons v vs ih =>
    intro k t
    simp only [enumE, look_cons]
    by_cases h : t = k
    · subst h; simp
    · rw [if_neg h, ih]
      by_cases h2 : k + 1 ≤ t
      · have e : t - k = (t - (k + 1)) + 1 := by omega
        rw [if_pos h2, if_pos (by omega), e, List.getElem?_cons_succ]
      · rw [if_neg h2, if_neg (by omega)]

def pack (us : Array Value) : Value := if h : us.size = 1 then us[0] else .tuple us

/-- What a call of the function comes to: the slots' values and the rows with which it is entered; what is handed back, and the rows behind it. -/
def SatAt (P : Program) (f : FuncId) (args : List SV) (rows : List Row) (R : List SV → List Row → Prop) : Prop :=
  ∀ (C : Ctx) (m : Nat → MV) (vals : Array Value), C.nb = rows.length → (∀ b, C.A b → b < C.w0.heap.size) → vals.size = args.length →
    SimM C ⟨vals.size, enumE 0 args, rows⟩ m ⟨vals, []⟩ C.w0 →
    Calls P f vals C.w0 fun e w' => ∃ (us : Array Value) (res : List SV) (rows' : List Row) (m' : Nat → MV), e = .returned (pack us) ∧ us.size = res.length ∧
      SimM C ⟨us.size, enumE 0 res, rows'⟩ m' ⟨us, []⟩ w' ∧ R res rows'

theorem SatAt.mono {f : FuncId} {args : List SV} {rows : List Row} {R R' : List SV → List Row → Prop} (h : SatAt P f args rows R) (hR : ∀ res rows', R res rows' → R' res rows') : SatAt P f args rows R' :=
  fun C m vals h1 h2 h3 h4 => (h C m vals h1 h2 h3 h4).mono fun _ _ ⟨us, res, rows', m', e1, e2, e3, e4⟩ => ⟨us, res, rows', m', e1, e2, e3, hR _ _ e4⟩

/-- What is handed back at a function's end: values alone; no new rows. -/
def retPv (ts : List Nat) (k : Nat) (R : List SV → List Row → Prop) (e : Go.Exit) (s : St) : Prop :=
  (e = .normal ∨ e = .ret) ∧ (k ≤ s.rows.length ∧ (ts.map fun t => look s.env t).all (SV.bdd k) = true ∧ (s.rows.take k).all (Row.bdd k) = true) ∧ R (ts.map fun t => look s.env t) (s.rows.take k)

theorem retPv_mk {ts : List Nat} {k : Nat} {R : List SV → List Row → Prop} {s : St} (h1 : Nat.ble k s.rows.length = true) (h2 : (ts.map fun t => look s.env t).all (SV.bdd k) = true) (h3 : (s.rows.take k).all (Row.bdd k) = true)
    (hR : R (ts.map fun t => look s.env t) (s.rows.take k)) : retPv ts k R .ret s := ⟨.inr rfl, ⟨Nat.le_of_ble_eq_true h1, h2, h3⟩, hR⟩

theorem again_mk {N : Nat} {L : List Nat} {k : Nat} {I : Nat → List SV → List Row → Prop} {n : Nat} {s' : St} (h0 : Nat.beq s'.n N = true) (h1 : Nat.ble k s'.rows.length = true) (h2 : (L.map fun t => look s'.env t).all (SV.bdd k) = true) (h3 : (s'.rows.take k).all (Row.bdd k) = true)
    (h : ∃ n', n' < n ∧ I n' (L.map fun t => look s'.env t) (s'.rows.take k)) : again N L k I n s' := ⟨⟨Nat.eq_of_beq_eq_true h0, Nat.le_of_ble_eq_true h1, h2, h3⟩, h⟩

theorem run_results {fn : Func} {ts : List Nat} (h : fn.results = (ts.map ResultVar.tmp).toArray) (hl : ts.length ≤ 3) (tmps : Array Value) (P : Program) (w : World) :
    (results fn tmps).run P w = .ok (pack (ts.map fun t => tmps.getD t undef).toArray) w := by
  match ts, hl with
  | [], _ => simp [results, h, pack]
  | [a], _ => simp [results, h, pack]
  | [a, b], _ => simp [results, h, pack]
  | [a, b, c], _ => simp [results, h, pack]

theorem sat_entry {f : FuncId} {fn : Func} {c : Code} {args : List SV} {rows : List Row} {R : List SV → List Row → Prop} {ts : List Nat} (hf : P.funcs[f]? = some fn) (hb : fn.body = some c)
    (hr : fn.results = (ts.map ResultVar.tmp).toArray) (hl : ts.length ≤ 3) (hn : args.length ≤ fn.ntmps)
    (h : ∀ C : Ctx, C.nb = rows.length → VC P C c (retPv ts rows.length R) ⟨fn.ntmps, enumE 0 args, rows⟩) : SatAt P f args rows R := by
  intro C m vals hnb hA hv hs
  refine calls_of_wp hf hb ?_
  have hs2 : SimM C ⟨fn.ntmps, enumE 0 args, rows⟩ m { tmps := vals ++ Array.replicate (fn.ntmps - vals.size) undef, defers := [] } C.w0 := by
    refine { hs with size := ?_, env := fun t => ?_, defs := rfl }
    · simp; omega
    · have := hs.env t
      show RS _ _ _ _ (look (enumE 0 args) t) _
      change RS _ _ _ _ (look (enumE 0 args) t) _ at this
      by_cases ht : t < vals.size
      · have e : (vals ++ Array.replicate (fn.ntmps - vals.size) undef).getD t undef = vals.getD t undef := by
          simp [Array.getD, ht]
          intro hh; omega
        rw [e]
        exact this
      · have e : look (enumE 0 args) t = .any := by
          rw [look_enumE]
          simp
          rw [List.getElem?_eq_none (by omega)]
          rfl
        rw [e]
        exact .any _
  refine wp_mono (h C hnb _ _ ⟨m, hs2⟩) ?_
  rintro e a w' ⟨s', ⟨m', hs'⟩, he, ⟨h1, h2, h3⟩, hR⟩
  have key : ∃ v, (results fn a.tmps).run P w' = .ok v w' ∧ (∃ (us : Array Value) (res : List SV) (rows' : List Row) (m' : Nat → MV), Ending.returned v = .returned (pack us) ∧ us.size = res.length ∧
      SimM C ⟨us.size, enumE 0 res, rows'⟩ m' ⟨us, []⟩ w' ∧ R res rows') := by
    refine ⟨_, run_results hr hl a.tmps P w', (ts.map fun t => a.tmps.getD t undef).toArray, ts.map fun t => look s'.env t, s'.rows.take rows.length, m', rfl, by simp, ?_, hR⟩
    have := hs'.forget rows.length (by omega) h1 [] (fun t => .inl rfl) h3
    refine { this with size := by simp, defs := rfl, env := fun t => ?_ }
    show RS _ _ _ _ (look (enumE 0 (ts.map fun t => look s'.env t)) t) _
    rw [look_enumE]
    simp only [Nat.zero_le, if_true, Nat.sub_zero]
    rcases Nat.lt_or_ge t ts.length with ht | ht
    · simp only [List.getElem?_map, List.getElem?_eq_getElem ht, Option.map_some, Option.getD_some]
      have e2 : ((ts.map fun t => a.tmps.getD t undef).toArray).getD t undef = a.tmps.getD ts[t] undef := by
        simp [Array.getD, ht]
      rw [e2]
      have hh := hs'.env ts[t]
      have hG : ∀ f b, Gd C s'.rows m' w' f b → Gd C (s'.rows.take rows.length) m' w' f b ∧ w'.heap[b]? = w'.heap[b]? :=
        Gd.step (fun _ => False) (Nat.le_refl _) (fun _ _ _ => rfl) (fun _ hf => hf.elim) (fun b _ ⟨j, hl, hbk⟩ => ⟨j, (liveAt_take hl).2, hbk⟩)
      have hlen : (s'.rows.take rows.length).length = rows.length := by simp; omega
      rw [hlen]
      refine (hh.mono (N' := s'.rows.length) (m' := m') hG (Nat.le_refl _) (fun _ _ => rfl)).shrink ?_
      rw [List.all_eq_true] at h2
      exact h2 _ (List.mem_map.2 ⟨ts[t], List.getElem_mem ht, rfl⟩)
    · simp only [List.getElem?_map, List.getElem?_eq_none ht, Option.map_none, Option.getD_none]
      exact .any _
  obtain ⟨v, hv1, hv2⟩ := key
  rcases he with rfl | rfl
  · exact ⟨hs'.defs, v, hv1, hv2⟩
  · exact ⟨hs'.defs, v, hv1, hv2⟩

def SV.isRef : SV → Bool
  | .ref _ => true
  | _ => false

/-- A slot's value as an argument: a row of the caller's own is read as it stands. -/
def argOf (rows : List Row) : SV → Option SV
  | .pv _ p => some (.pv p.scal p)
  | .ref id => match rows[id]? with
    | some (.own _ e nl _ xs) => some (.pv false (.sl nl e xs))
    | some (.tree _ e nl none xs) => some (.pv false (.sl nl e xs))
    | _ => none
  | _ => none

def SV.fresh : SV → Bool
  | .pv fr p => fr || p.scal
  | .ref _ => true
  | .ptr _ _ _ _ => true
  | _ => false

def SV.isPv : SV → Bool
  | .pv _ _ => true
  | _ => false

def packS (res : List SV) : SV := match res with
  | [r] => r
  | _ => .tup res

theorem Gd.weak {C : Ctx} {rows : List Row} {m : Nat → MV} {w : World} {fr : Bool} {b : Nat} (h : Gd C rows m w fr b) : Gd C rows m w false b := by
  refine ⟨h.1, h.2.1, fun _ => ?_, fun e => by cases e⟩
  cases fr with
  | false => exact h.2.2.1 rfl
  | true => exact .inr (h.2.2.2 rfl).1

theorem run_call {f : FuncId} {fn : Func} {a : Act} {w : World} {t : Nat} {ty : TypeId} {pos : String} {af : Array Edge} {xs : Array Operand} {Ts : Array TypeId} (hf : P.funcs[f]? = some fn) (hnm : (fn.name == "runtime.NumGoroutine") = false)
    (hbd : fn.body.isNone = false) (dst : Option Tmp) :
    (execOp a.eval ⟨dst, .call ⟨.value (.func f), xs, Ts⟩, ty, pos, af, none⟩).run P w = .ok (.enter f (xs.map a.eval)) w := by
  have h1 : ¬ (fn.name = "runtime.NumGoroutine") := by simpa using hnm
  have h2 : ¬ (fn.body = none) := by intro e; rw [e] at hbd; cases hbd
  simp [execOp, resolve, Deferred.ofValue, invoke, callFunc, Act.eval, hf, h1, h2]

theorem mapM_get {α β : Type} {g : α → Option β} : ∀ {l : List α} {r : List β}, l.mapM g = some r → ∀ (j : Nat) (x : α), l[j]? = some x → ∃ y, r[j]? = some y ∧ g x = some y
  | [], r, h, j, x, hx => by simp at hx
  | a :: l, r, h, j, x, hx => by
    simp only [List.mapM_cons, Option.bind_eq_bind, Option.pure_def] at h
    cases hga : g a with
    | none => rw [hga] at h; simp at h
    | some b =>
      rw [hga] at h
      simp only [Option.bind_some] at h
      cases hl : l.mapM g with
      | none => rw [hl] at h; simp at h
      | some r' =>
        rw [hl] at h
        simp at h
        subst h
        cases j with
        | zero => simp at hx; subst hx; exact ⟨b, rfl, hga⟩
        | succ j => simp only [List.getElem?_cons_succ] at hx ⊢; exact mapM_get hl j x hx

theorem mapM_len {α β : Type} {g : α → Option β} : ∀ {l : List α} {r : List β}, l.mapM g = some r → r.length = l.length
  | [], r, h => by simp at h; subst h; rfl
  | a :: l, r, h => by
    simp only [List.mapM_cons, Option.bind_eq_bind, Option.pure_def] at h
    cases hga : g a with
    | none => rw [hga] at h; simp at h
    | some b =>
      rw [hga] at h
      simp only [Option.bind_some] at h
      cases hl : l.mapM g with
      | none => rw [hl] at h; simp at h
      | some r' => rw [hl] at h; simp at h; subst h; simp [mapM_len hl]

/-- A call by what the function hands back: values alone: the operation. -/
theorem ow_call0 {t : Nat} {ty : TypeId} {pos : String} {af : Array Edge} {gd : Option (Nat × Bool)} {f : FuncId} {fn : Func} {xs : Array Operand} {Ts : Array TypeId} {args : List SV} {R : List SV → List Row → Prop} {m : Nat → MV} {a : Act} {w : World}
    {K : Act → World → Prop} {Q' : Go.Exit → Act → World → Prop} (hs : SimM C s m a w)
    (hf : P.funcs[f]? = some fn) (hnm : (fn.name == "runtime.NumGoroutine") = false) (hbd : fn.body.isNone = false) (ht : Nat.blt t s.n = true)
    (hargs : (xs.toList.map (getO s.env)).mapM (argOf s.rows) = some args) (hsat : SatAt P f args [] R)
    (hcond : ∀ res rows', R res rows' → rows' = [] ∧ res.all SV.isPv = true ∧ (((xs.toList.map (getO s.env)).any SV.isRef = false) ∨ res.all SV.fresh = true))
    (hK : ∀ res a' w', R res [] → ExtW w w' → SimM C (s.put t (packS res)) m a' w' → K a' w') :
    Oper.wp P ⟨some t, .call ⟨.value (.func f), xs, Ts⟩, ty, pos, af, gd⟩ a w K Q' := by
  unfold Oper.wp
  have hrc : (execOp a.eval ⟨some t, .call ⟨.value (.func f), xs, Ts⟩, ty, pos, af, gd⟩).run P w = .ok (.enter f (xs.map a.eval)) w := run_call (t := t) (ty := ty) (pos := pos) (af := af) hf hnm hbd (some t)
  rw [hrc, Oper.upon_enter]
  let kept : Prop := (xs.toList.map (getO s.env)).any SV.isRef = true
  let C' : Ctx := ⟨w, fun b => Gd C s.rows m w false b ∨ (kept ∧ b < w.heap.size), 0, fun _ => default⟩
  have hlen : args.length = xs.size := by rw [mapM_len hargs]; simp
  have hs0 : SimM C' ⟨(xs.map a.eval).size, enumE 0 args, []⟩ (fun _ => default) ⟨xs.map a.eval, []⟩ C'.w0 := {
    defs := rfl
    size := rfl
    os := rfl
    tape := rfl
    output := rfl
    hsz := Nat.le_refl _
    old := fun _ _ _ => rfl
    bor := fun id hid => by cases hid
    nbl := Nat.zero_le _
    newb := fun id b _ hl _ => by obtain ⟨r, hr, _⟩ := hl; simp at hr
    dist := fun i j b hi _ _ _ => by obtain ⟨r, hr, _⟩ := hi; simp at hr
    rows := fun id r hr => by simp at hr
    env := fun u => by
      show RS w _ _ _ (look (enumE 0 args) u) _
      rw [look_enumE]
      simp only [Nat.zero_le, if_true, Nat.sub_zero]
      rcases Nat.lt_or_ge u xs.size with hu | hu
      · have hx : (xs.toList.map (getO s.env))[u]? = some (getO s.env xs[u]) := by simp [hu]
        obtain ⟨y, hy, hg⟩ := mapM_get hargs u _ hx
        rw [hy]
        simp only [Option.getD_some]
        have e2 : (xs.map a.eval).getD u undef = a.eval xs[u] := by simp [Array.getD, hu]
        show RS w _ _ _ y ((xs.map a.eval).getD u undef)
        rw [e2]
        have hv := hs.get xs[u]
        have hkey : ∀ b, Gd C s.rows m w false b → Gd C' [] (fun _ => default) w false b := fun b hb =>
          ⟨hb.1, fun ⟨id, ⟨r, hr, _⟩, _⟩ => by simp at hr, fun _ => .inl (.inl hb), fun e => by cases e⟩
        generalize hgx : getO s.env xs[u] = gx at *
        generalize a.eval xs[u] = v at *
        cases hv with
        | pv fr p v hp =>
          simp only [argOf, Option.some.injEq] at hg
          subst hg
          cases hsc : p.scal with
          | true => exact .pv _ _ _ (hp.scal_any hsc)
          | false => exact .pv _ _ _ (hp.mono fun b hb => ⟨hkey b hb.weak, rfl⟩)
        | ref id hid =>
          simp only [argOf] at hg
          split at hg
          · rename_i t' e nl fr ys hrow
            simp at hg
            subst hg
            refine .pv _ _ _ (RP.of_row (hs.rows id _ hrow) (fun b hb => hkey b hb.weak) (fun b hb => ?_))
            have hlt := hs.lt ⟨_, hrow, rfl⟩ hb
            have hk : kept := by
              show (xs.toList.map (getO s.env)).any SV.isRef = true
              rw [List.any_eq_true]
              exact ⟨.ref id, List.mem_of_getElem? hx, rfl⟩
            exact ⟨hlt, fun ⟨id, ⟨r, hr, _⟩, _⟩ => by simp at hr, fun _ => .inl (.inr ⟨hk, hlt⟩), fun e => by cases e⟩
          · rename_i t' e nl ys hrow
            simp at hg
            subst hg
            refine .pv _ _ _ (RP.of_tree (hs.rows id _ hrow) (fun b hb => ?_))
            have hlt := hs.lt ⟨_, hrow, rfl⟩ hb
            have hk : kept := by
              show (xs.toList.map (getO s.env)).any SV.isRef = true
              rw [List.any_eq_true]
              exact ⟨.ref id, List.mem_of_getElem? hx, rfl⟩
            exact ⟨hlt, fun ⟨id, ⟨r, hr, _⟩, _⟩ => by simp at hr, fun _ => .inl (.inr ⟨hk, hlt⟩), fun e => by cases e⟩
          · simp at hg
        | _ => simp [argOf] at hg
      · rw [List.getElem?_eq_none (by omega)]
        exact .any _ }
  refine (hsat C' (fun _ => default) (xs.map a.eval) rfl (fun b hb => hb.elim (fun h => h.1) (fun h => h.2)) (by simp [hlen]) hs0).mono ?_
  rintro e w' ⟨us, res, rows', m', rfl, hus, hs', hR⟩
  obtain ⟨rfl, hpv, hfr⟩ := hcond res rows' hR
  have hsz : w.heap.size ≤ w'.heap.size := hs'.hsz
  have hold : ∀ k, k < w.heap.size → w'.heap[k]? = w.heap[k]? := fun k hk => hs'.old k hk (fun id hid => by cases hid)
  have hG : ∀ f b, Gd C s.rows m w f b → Gd C s.rows m w' f b ∧ w'.heap[b]? = w.heap[b]? :=
    Gd.step (fun _ => False) hsz (fun k hk _ => hold k hk) (fun _ hf => hf.elim) (fun b _ h => h)
  have hs2 : SimM C s m a w' := {
    defs := hs.defs
    size := hs.size
    os := hs'.os.trans hs.os
    tape := hs'.tape.trans hs.tape
    output := hs'.output.trans hs.output
    hsz := Nat.le_trans hs.hsz hsz
    old := fun k hk hn => (hold k (by have := hs.hsz; omega)).trans (hs.old k hk hn)
    bor := hs.bor
    nbl := hs.nbl
    newb := hs.newb
    dist := hs.dist
    rows := fun id r hr => RowOK.mono hG (Nat.le_refl _) (fun _ _ => rfl) (hs.rows id r hr) (fun hl b hb => hold b (hs.lt ⟨r, hr, hl⟩ hb))
    env := fun u => (hs.env u).mono hG (Nat.le_refl _) (fun _ _ => rfl) }
  have hres : ∀ (j : Nat) (r : SV), res[j]? = some r → RS w' (Gd C s.rows m w') m s.rows.length r (us.getD j undef) := by
    intro j r hj
    have hv := hs'.env j
    change RS w' _ _ _ (look (enumE 0 res) j) (us.getD j undef) at hv
    rw [look_enumE] at hv
    simp only [Nat.zero_le, if_true, Nat.sub_zero, hj, Option.getD_some] at hv
    have hrp : r.isPv = true := by rw [List.all_eq_true] at hpv; exact hpv r (List.mem_of_getElem? hj)
    generalize us.getD j undef = v at *
    cases hv with
    | pv fr p v hp =>
      cases hsc : p.scal with
      | true => exact .pv _ _ _ (hp.scal_any hsc)
      | false =>
        refine .pv _ _ _ (hp.mono fun b hb => ⟨?_, rfl⟩)
        have hnp : w.heap.size ≤ b → ¬ priv s.rows m b := fun hb ⟨id, hl, hbk⟩ => by have := hs.lt hl hbk; omega
        cases fr with
        | true =>
          have h4 := hb.2.2.2 rfl
          exact ⟨hb.1, hnp h4.1, (fun e => by cases e), fun _ => ⟨Nat.le_trans hs.hsz h4.1, h4.2⟩⟩
        | false =>
          rcases hb.2.2.1 rfl with hA | hA
          · rcases hA with hA | hA
            · exact (hG false b hA).1
            · exfalso
              rcases hfr with hfr | hfr
              · have : kept := hA.1
                simp only [kept] at this
                rw [this] at hfr
                cases hfr
              · rw [List.all_eq_true] at hfr
                have := hfr _ (List.mem_of_getElem? hj)
                simp [SV.fresh, hsc] at this
          · exact ⟨hb.1, hnp hA, fun _ => .inr (Nat.le_trans hs.hsz hA), fun e => by cases e⟩
    | _ => simp [SV.isPv] at hrp
  refine hK res _ _ hR ⟨hsz, hold⟩ (hs2.put (blt_lt ht) ?_)
  match res, hus, hres with
  | [], hus, _ =>
    have : us = #[] := Array.eq_empty_of_size_eq_zero (by simpa using hus)
    subst this
    exact .tup _ _ rfl (fun j c v hc => by simp at hc)
  | [r], hus, hres =>
    have h1 : us.size = 1 := by simpa using hus
    have := hres 0 r rfl
    simp only [packS, pack, h1, dif_pos]
    simpa [Array.getD, h1] using this
  | r1 :: r2 :: rs, hus, hres =>
    have h1 : us.size ≠ 1 := by rw [hus]; simp
    simp only [packS, pack, h1, dif_neg, not_false_iff]
    refine .tup _ _ hus (fun j c v hc hv => ?_)
    have := hres j c hc
    have e : us.getD j undef = v := by
      rw [Array.getElem?_eq_some_iff] at hv
      obtain ⟨hlt, e⟩ := hv
      simp [Array.getD, hlt, e]
    rw [e] at this
    exact this

/-- A call by what the function hands back: values alone. -/
theorem vo_call0 {ops : Array Oper} {rest : List Oper} {t : Nat} {ty : TypeId} {pos : String} {af : Array Edge} {f : FuncId} {fn : Func} {xs : Array Operand} {Ts : Array TypeId} {args : List SV} {R : List SV → List Row → Prop}
    (hf : P.funcs[f]? = some fn) (hnm : (fn.name == "runtime.NumGoroutine") = false) (hbd : fn.body.isNone = false) (ht : Nat.blt t s.n = true)
    (hargs : (xs.toList.map (getO s.env)).mapM (argOf s.rows) = some args) (hsat : SatAt P f args [] R)
    (next : ∀ res rows', R res rows' → rows' = [] ∧ res.all SV.isPv = true ∧ (((xs.toList.map (getO s.env)).any SV.isRef = false) ∨ res.all SV.fresh = true) ∧ VO P C ops rest Q (s.put t (packS res))) :
    VO P C ops (⟨some t, .call ⟨.value (.func f), xs, Ts⟩, ty, pos, af, none⟩ :: rest) Q s := by
  intro a w ⟨m, hs⟩
  refine wpList_plain rfl fun K hK => ?_
  exact ow_call0 hs hf hnm hbd ht hargs hsat (fun res rows' hR => let ⟨h1, h2, h3, _⟩ := next res rows' hR; ⟨h1, h2, h3⟩) (fun res a' w' hR _ hs' => hK _ _ ((next res [] hR).2.2.2 _ _ ⟨m, hs'⟩))

end
end Go.Vl
