/- Part 2 of the texts that the proof of FnPlainPairs is built on. -/
import Derived.Test.YtajolcdboifjaaaVl1
import Derived.Laws.StructEq
import Derived.MapKept
import Derived.Test.YtajolcdboifjaaaProg
import Derived.KernelRfl
import Derived.ProofKit
import Derived.OpenShut
import Derived.Below
import Derived.Deep.Matrix
import Derived.ChangeArms
import Derived.ChangeSame
/- A call that makes rows, in a statement whose order of evaluation is open. -/
namespace Go.Vl
set_option linter.unusedVariables false
set_option linter.unusedSimpArgs false
open Go.RowKit

section
variable {P : Program} {C : Ctx} {ops : Array Oper} {K : St → Prop} {s : St} {n : Nat} {listed : Array Bool}

end
end Go.Vl


/- More ghost steps: a row forgets that what it holds is new. -/
namespace Go.Vl
set_option linter.unusedVariables false
set_option linter.unusedSimpArgs false
open Go.RowKit

section
variable {P : Program} {C : Ctx} {Q : Go.Exit → St → Prop} {s : St}
end
end Go.Vl


/- Nil slices of the call's own that are known to be nil; a slice held to differ from nil. -/
namespace Go.Vl
set_option linter.unusedVariables false
set_option linter.unusedSimpArgs false
open Go.RowKit

section
variable {P : Program} {C : Ctx} {Q : Go.Exit → St → Prop} {s : St} {ops : Array Oper} {rest : List Oper} {t : Nat} {ty : TypeId} {pos : String} {af : Array Edge}

end
end Go.Vl


/- A slice is taken out of a row whose slices are its own: it becomes a row. -/
namespace Go.Vl
set_option linter.unusedVariables false
set_option linter.unusedSimpArgs false
open Go.RowKit

section
variable {P : Program} {C : Ctx} {Q : Go.Exit → St → Prop} {s : St} {ops : Array Oper} {rest : List Oper} {t : Nat} {ty : TypeId} {pos : String} {af : Array Edge}

end
end Go.Vl


/- A row of the call's own held to differ from nil. -/
namespace Go.Vl
set_option linter.unusedVariables false
set_option linter.unusedSimpArgs false
open Go.RowKit

section
variable {P : Program} {C : Ctx} {Q : Go.Exit → St → Prop} {s : St} {ops : Array Oper} {rest : List Oper} {t : Nat} {ty : TypeId} {pos : String} {af : Array Edge}

end
end Go.Vl


/- A slice of a row whose slices are its own held against nil. -/
namespace Go.Vl
set_option linter.unusedVariables false
set_option linter.unusedSimpArgs false
open Go.RowKit

section
variable {P : Program} {C : Ctx} {Q : Go.Exit → St → Prop} {s : St} {ops : Array Oper} {rest : List Oper} {t : Nat} {ty : TypeId} {pos : String} {af : Array Edge}

end
end Go.Vl


/- Ghost steps in a statement whose order is open. -/
namespace Go.Vl
set_option linter.unusedVariables false
set_option linter.unusedSimpArgs false
open Go.RowKit
theorem vd_st {P : Program} {C : Ctx} {ops : Array Oper} {K : St → Prop} {s s' : St} {n : Nat} {listed : Array Bool} (h : s = s') (next : VD P C ops n listed K s') : VD P C ops n listed K s := by rw [h]; exact next
end Go.Vl


/- Statements whose order of evaluation is open, with operations that write: these come when nothing else can. -/
namespace Go.Vl
set_option linter.unusedVariables false
set_option linter.unusedSimpArgs false
open Go.RowKit

section
variable {P : Program} {ops : Array Oper} {Q : Go.Exit → Act → World → Prop}

/-- Whatever order is picked; each step leaves all that was there as it was, or is one of those that come late. -/
def anyL (late : List Nat) (P : Program) (ops : Array Oper) (Q : Go.Exit → Act → World → Prop) : Nat → Array Bool → Act → World → Prop
  | 0, listed, a, w => Region.ready .any ops listed = [] ∧ Q .normal a w
  | n + 1, listed, a, w => (Region.ready .any ops listed = [] → Q .normal a w) ∧
      ∀ i ∈ Region.ready .any ops listed, wpOp P ops Q i (fun a' w' => (ExtW w w' ∨ late.contains i = true) ∧ anyL late P ops Q n (listed.setIfInBounds i true) a' w') a w

theorem any_of_anyL {late : List Nat} : ∀ (n : Nat) (listed : Array Bool) (a : Act) (w : World), anyL late P ops Q n listed a w → wpAny P .any ops Q n listed a w
  | 0, _, _, _, h => h
  | n + 1, _, _, _, h => ⟨h.1, fun i hi => wpOp_mono (fun a' w' h' => any_of_anyL n _ a' w' h'.2) (h.2 i hi)⟩

theorem anyL_first {late : List Nat} {M : Nat → Bool} {i : Nat} {oi : Oper} {v : Value} (hi : ops[i]? = some oi) (hsel : ∀ (j : Nat) (o : Oper) cs b, ops[j]? = some o → o.op ≠ .select cs b) (hQ : ∀ c a w, ¬ Q (.panic c) a w)
    (hcl : ∀ j oj, ops[j]? = some oj → j ≠ i → (∀ e ∈ oj.after, Region.binds .any e = true → M e.on = true) → M j = true ∧ late.contains j = false) :
    ∀ (n : Nat) (listed : Array Bool) (a : Act) (w : World),
      (∀ j oj, ops[j]? = some oj → j ≠ i → listed.getD j true = false → (∀ e ∈ oj.after, Region.binds .any e = true → e.on ≠ i) → oi.apart ops oj = true) →
      (∀ k, listed.getD k false = true → M k = true) →
      i ∈ Region.ready .any ops listed → yieldsE P ops oi v a w → anyL late P ops Q n (listed.setIfInBounds i true) (a.put oi.dst v) w → anyL late P ops Q (n + 1) listed a w := by
  intro n
  induction n with
  | zero =>
    intro listed a w _ _ hr hy H
    refine ⟨fun h => (by rw [h] at hr; cases hr), fun j hj => ?_⟩
    by_cases hji : j = i
    · subst hji; exact hy.op hi ⟨.inl (ExtW.refl w), H⟩
    · have := ready_mono hj hji
      rw [H.1] at this
      cases this
  | succ n ih =>
    intro listed a w hfree hsub hr hy H
    refine ⟨fun h => (by rw [h] at hr; cases hr), fun j hj => ?_⟩
    by_cases hji : j = i
    · subst hji; exact hy.op hi ⟨.inl (ExtW.refl w), H⟩
    · have g1 := H.2 j (ready_mono hj hji)
      obtain ⟨hjun, oj, hoj, hall⟩ := mem_ready.1 hj
      have hnot : ∀ e ∈ oj.after, Region.binds .any e = true → e.on ≠ i := by
        intro e he hb heq
        have l1 := hall e he hb
        have l0 := (mem_ready.1 hr).1
        rw [heq] at l1
        rcases Nat.lt_or_ge i listed.size with h' | h'
        · simp [h'] at l0 l1
          rw [l0] at l1
          cases l1
        · simp [Array.getElem?_eq_none h'] at l1
      obtain ⟨hMj, hlj⟩ := hcl j oj hoj hji (fun e he hb => hsub _ (hall e he hb))
      have hext : ∀ (w' : World), (ExtW w w' ∨ late.contains j = true) → ExtW w w' := by
        intro w' h
        rcases h with h | h
        · exact h
        · rw [hlj] at h; cases h
      have g2 := op_before hoj (hfree j oj hoj hji hjun hnot) (fun cs b => hsel i oi cs b hi) (fun cs b => hsel j oj cs b hoj) hQ (fun _ w' h => hext w' h.1) hy g1
      have hfree' : ∀ k ok, ops[k]? = some ok → k ≠ i → (listed.setIfInBounds j true).getD k true = false → (∀ e ∈ ok.after, Region.binds .any e = true → e.on ≠ i) → oi.apart ops ok = true := by
        intro k ok hk hki hun hno
        refine hfree k ok hk hki ?_ hno
        by_cases hjk : j = k
        · subst hjk; exact hjun
        · rw [getD_set_ne true hjk] at hun; exact hun
      have hsub' : ∀ k, (listed.setIfInBounds j true).getD k false = true → M k = true := by
        intro k hk
        by_cases hjk : j = k
        · subst hjk; exact hMj
        · rw [getD_set_ne false hjk] at hk; exact hsub k hk
      refine wpOp_mono (fun a' w' g3 => ⟨g3.2.1, ih (listed.setIfInBounds j true) a' w' hfree' hsub' (ready_mono hr (Ne.symm hji)) g3.1 ?_⟩) g2
      rw [Array.setIfInBounds_comm _ _ hji]
      exact g3.2.2

/-- Without i no late operation can come: M has all that can. -/
def closedB (ops : Array Oper) (late M : List Nat) (i : Nat) : Bool :=
  (List.range ops.size).all fun j => j == i || match ops[j]? with
    | some oj => (oj.after.any fun e => Region.binds .any e && !M.contains e.on) || (M.contains j && !late.contains j)
    | none => true
def subB (listed : Array Bool) (M : List Nat) : Bool := (List.range listed.size).all fun k => !listed.getD k false || M.contains k

theorem closed_spec {late M : List Nat} {i : Nat} (h : closedB ops late M i = true) (j : Nat) (oj : Oper) (hj : ops[j]? = some oj) (hne : j ≠ i) (he : ∀ e ∈ oj.after, Region.binds .any e = true → M.contains e.on = true) :
    M.contains j = true ∧ late.contains j = false := by
  simp only [closedB, List.all_eq_true, List.mem_range] at h
  have h1 := h j (Array.getElem?_eq_some_iff.1 hj).1
  simp only [hj, Bool.or_eq_true, beq_iff_eq, hne, false_or] at h1
  rcases h1 with h1 | h1
  · obtain ⟨e, h2, h3⟩ := Array.any_eq_true'.1 h1
    simp only [Bool.and_eq_true, Bool.not_eq_true'] at h3
    rw [he e h2 h3.1] at h3
    cases h3.2
  · simp only [Bool.and_eq_true, Bool.not_eq_true'] at h1
    exact h1

theorem sub_spec {listed : Array Bool} {M : List Nat} (h : subB listed M = true) (k : Nat) (hk : listed.getD k false = true) : M.contains k = true := by
  simp only [subB, List.all_eq_true, List.mem_range, Bool.or_eq_true, Bool.not_eq_true'] at h
  rcases Nat.lt_or_ge k listed.size with h1 | h1
  · rcases h k h1 with h2 | h2
    · rw [hk] at h2; cases h2
    · exact h2
  · simp [Array.getD, Nat.not_lt.2 h1] at hk
end

def VL (late : List Nat) (P : Program) (C : Ctx) (ops : Array Oper) (n : Nat) (listed : Array Bool) (K : St → Prop) (s : St) : Prop := ∀ m a w, SimM C s m a w → anyL late P ops (post0 C K) n listed a w

section
variable {late : List Nat} {P : Program} {C : Ctx} {ops : Array Oper} {K : St → Prop} {s : St} {n : Nat} {listed : Array Bool}

theorem vc_drawL (late : List Nat) {id : Nat} {Q : Go.Exit → St → Prop} (hd : Region.departs ops = false) (h : VL late P C ops ops.size (Array.replicate ops.size false) (Q .normal) s) : VC P C (.region id ops true) Q s := by
  intro a w ⟨m, hs⟩
  refine wp_region_draw fun t => ?_
  simp only [Region.schedule, hd, Bool.not_false, Bool.or_true, if_true]
  refine wpOps_monoQ (Q := post0 C (Q .normal)) ?_ _ _ _ (wpAny_sound ops.size t _ a _ (any_of_anyL _ _ _ _ (h m a _ (hs.grow (w' := { w with drawn := w.drawn + 1 }) (ExtW.refl w) rfl rfl rfl))))
  rintro e a' w' ⟨rfl, s', hs', hk⟩
  exact ⟨s', hs', hk⟩

theorem vl_light (i : Nat) (M : List Nat) {o : Oper} {t : Nat} {sv : SV} (hi : ops[i]? = some o) (hd : o.dst = some t) (ht : Nat.blt t s.n = true) (hr : (Region.ready .any ops listed).contains i = true) (hns : Region.noSelect ops = true)
    (hf : Region.free .any ops listed i = true) (hM : closedB ops late M i = true) (hsub : subB listed M = true) (hw : Wnt C ops s o true) (hl : Lt P C s { o with guard := none } sv) (next : VL late P C ops n (listed.setIfInBounds i true) K (s.put t sv)) : VL late P C ops (n + 1) listed K s := by
  intro m a w hs
  obtain ⟨v, hrun, hv⟩ := hl m a w hs
  refine anyL_first (M := M.contains) hi (Region.noSelect_spec hns) post0_panic (fun j oj hj hne he => closed_spec hM j oj hj hne he) n listed a w (Region.free_spec hi hf) (sub_spec hsub) (by simpa using hr) (.inl ⟨hw m a w hs, hrun⟩) ?_
  rw [hd]
  exact next m _ _ (hs.put (blt_lt ht) hv)

theorem vl_nil (hr : Region.ready .any ops listed = []) (h : K s) : VL late P C ops n listed K s := by
  intro m a w hs
  have hq : post0 C K .normal a w := ⟨rfl, s, ⟨m, hs⟩, h⟩
  cases n with
  | zero => exact ⟨hr, hq⟩
  | succ n => exact ⟨fun _ => hq, by rw [hr]; simp⟩

theorem wp_mono2 {Q Q' : Go.Exit → Act → World → Prop} {K K' : Act → World → Prop} (hq : ∀ e a w, e ≠ .normal → Q e a w → Q' e a w) (hk : ∀ a w, K a w → K' a w) {o : Oper} {a : Act} {w : World} (h : o.wp P a w K Q) : o.wp P a w K' Q' := by
  unfold Oper.wp at *
  generalize (execOp a.eval o).run P w = r at *
  cases r with
  | ok x w' =>
    cases x with
    | value u => exact hk _ _ h
    | skip => exact hk _ _ h
    | defer d => exact hk _ _ h
    | enter f args =>
      simp only [Oper.upon] at h ⊢
      refine h.mono fun e w'' he => ?_
      cases e with
      | returned u => exact hk _ _ he
      | panicked c => exact hq _ _ _ (by simp) he
      | outgrown => obtain ⟨a3, w3, h3⟩ := he; exact ⟨a3, w3, hq _ _ _ (by simp) h3⟩
    | row row args => exact Rows.mono h fun u w'' he => hk _ _ he
    | _ => exact h
  | halt x w' =>
    cases x with
    | panic v => exact hq _ _ _ (by simp) h
    | _ => exact h

/-- An operation when nothing else can come. -/
theorem vl_one (i : Nat) {o : Oper} (hi : ops[i]? = some o) (hr : Region.ready .any ops listed = [i]) (hlate : late.contains i = true)
    (h : VO P C ops [o] (fun e s' => e = .normal ∧ VL late P C ops n (listed.setIfInBounds i true) K s') s) : VL late P C ops (n + 1) listed K s := by
  intro m a w hs
  refine ⟨fun h0 => (by rw [hr] at h0; cases h0), fun j hj => ?_⟩
  rw [hr] at hj
  simp at hj
  subst hj
  have h1 := h a w ⟨m, hs⟩
  have hfin : ∀ a' w', wpList P ops (post C (fun e s' => e = .normal ∧ VL late P C ops n (listed.setIfInBounds j true) K s')) [] a' w' → (ExtW w w' ∨ late.contains j = true) ∧ anyL late P ops (post0 C K) n (listed.setIfInBounds j true) a' w' := by
    rintro a' w' ⟨s', ⟨m', hs'⟩, _, h2⟩
    exact ⟨.inr hlate, h2 m' a' w' hs'⟩
  have hpost : ∀ e a' w', e ≠ .normal → post C (fun e s' => e = .normal ∧ VL late P C ops n (listed.setIfInBounds j true) K s') e a' w' → post0 C K e a' w' := by
    rintro e a' w' hne ⟨s', _, h2, _⟩
    exact absurd h2 hne
  unfold wpOp
  simp only [hi]
  unfold wpList at h1
  by_cases hw : Region.wanted o (yielded ops a.tmps) = true
  · rw [if_pos hw] at h1 ⊢
    rcases h1 with h1 | ⟨h1, a2, w2, h2⟩
    · exact .inl (wp_mono2 hpost hfin h1)
    · exact .inr ⟨h1, a2, w2, hpost _ _ _ (by simp) h2⟩
  · rw [if_neg hw] at h1 ⊢
    exact hfin _ _ h1

theorem vo_done {Q : Go.Exit → St → Prop} (h : Q .normal s) : VO P C ops [] Q s := vo_nil h
end
end Go.Vl


/- '==' on structs of two numbers. -/
namespace Go.Vl
set_option linter.unusedVariables false
set_option linter.unusedSimpArgs false
open Go.RowKit

/-- Structs of two numbers are compared number by number. -/
def EqI2 (P : Program) (T : TypeId) : Prop :=
  (∀ (x y x' y' : Int) (w : World), (Op.equalIn 10000 T (.agg #[.int .i64 x, .int .i64 y]) (.agg #[.int .i64 x', .int .i64 y'])).run P w = .ok (x == x' && y == y') w) ∧ P.eqGuardType P.depth T = false

theorem RP.agg2 {w : World} {G : Nat → Prop} {a b : Int} {v : Value} (h : RP w G (.agg [.int .i64 a, .int .i64 b]) v) : v = .agg #[.int .i64 a, .int .i64 b] := by
  cases h with
  | agg _ vs hl h1 h =>
    simp only [List.length_cons, List.length_nil] at hl
    have e0 : vs[0]? = some vs[0] := Array.getElem?_eq_getElem (by omega)
    have e1 : vs[1]? = some vs[1] := Array.getElem?_eq_getElem (by omega)
    have h0 := h 0 _ _ rfl e0
    have h2 := h 1 _ _ rfl e1
    have k0 : vs[0] = .int .i64 a := by generalize vs[0] = u at h0; cases h0; rfl
    have k1 : vs[1] = .int .i64 b := by generalize vs[1] = u at h2; cases h2; rfl
    congr 1
    apply Array.ext
    · simp; omega
    · intro i hi hi2
      match i, hi with
      | 0, _ => exact k0
      | 1, _ => exact k1
      | i+2, hi => omega

section
variable {P : Program} {C : Ctx} {Q : Go.Exit → St → Prop} {s : St} {ops : Array Oper} {rest : List Oper} {t : Nat} {ty : TypeId} {pos : String} {af : Array Edge}

end
end Go.Vl


/- Operations that make new memory, in a statement whose order of evaluation is open. -/
namespace Go.Vl
set_option linter.unusedVariables false
set_option linter.unusedSimpArgs false
open Go.RowKit

/-- The operation hands back a value, and all that was there is there as it was. -/
def Xt (P : Program) (C : Ctx) (s : St) (o : Oper) (s1 : St) (sv : SV) : Prop :=
  ∀ m a w, SimM C s m a w → ∃ v w' m', (execOp a.eval o).run P w = .ok (.value v) w' ∧ SimM C s1 m' a w' ∧ RS w' (Gd C s1.rows m' w') m' s1.rows.length sv v ∧ ExtW w w'

section
variable {late : List Nat} {P : Program} {C : Ctx} {ops : Array Oper} {K : St → Prop} {s s1 : St} {n : Nat} {listed : Array Bool}

end
section
variable {P : Program} {C : Ctx} {s : St} {t : Nat} {ty : TypeId} {pos : String} {af : Array Edge}

end
end Go.Vl


/- Side conditions and plain states, by a tactic that the rule itself carries. -/
namespace Go.Vl
set_option linter.unusedVariables false
set_option linter.unusedSimpArgs false
open Go.RowKit

/-- A side condition. -/
theorem sd {p : Prop} (h : p := by first | omega | (simp only [List.length_map] <;> omega) | (simp only [List.length_map, List.length_set, List.length_append, List.length_cons, List.length_nil, List.length_replicate, List.length_take, List.length_drop] <;> omega) | (simp <;> omega) | (constructor <;> (first | omega | (simp <;> omega))) | (refine ⟨?_, ?_, ?_, ?_⟩ <;> omega) | exact ⟨xorI_nonneg _ _, by omega⟩ | decide) : p := h

section
variable {late : List Nat} {P : Program} {C : Ctx} {Q : Go.Exit → St → Prop} {K : St → Prop} {s s' : St} {ops : Array Oper} {n : Nat} {listed : Array Bool}
theorem vo_stN {l : List Oper} (next : VO P C ops l Q s') (h : s = s' := by (try simp only [St.put, exposeE, killE, SV.expose, SV.kill, Row.expose, Row.kill, rowsAfter_nil, rowsAfter_one, packS, SV.shift, placeOf, enumE, List.zip_cons_cons, List.zip_nil_right, List.map_cons, List.map_nil, List.set_cons_zero, List.set_cons_succ, List.length_cons, List.length_nil, List.cons_append, List.nil_append, List.drop_succ_cons, List.drop_zero, List.drop_nil, List.take_succ_cons, List.take_zero, List.take_nil, List.getElem?_cons_zero, List.getElem?_cons_succ, List.getElem?_nil, Option.getD_some, Option.getD_none, Option.map_some, Option.map_none, Nat.reduceAdd, Nat.reduceSub, Nat.reduceEqDiff, Nat.zero_add, Bool.true_or, PV.scal, Bool.or_false, Bool.or_true, Bool.false_or, Bool.and_true, Bool.and_false, Bool.true_and, reduceIte, reduceCtorEq]); exact eq_refl _) : VO P C ops l Q s := vo_st h next
end
end Go.Vl


/- A call whose function's code is gone through in its place: the caller's slots wait in a row of their own. -/
namespace Go.Vl
set_option linter.unusedVariables false
set_option linter.unusedSimpArgs false
open Go.RowKit

/-- What a result holds at a function's end. -/
def resG (s : St) : Nat × Option (Nat × Nat) → SV
  | (t, none) => look s.env t
  | (a, some _) => match look s.env a with
    | .ptr id 0 0 0 => match s.rows[id]? with
      | some (.var _ cs) => match collectC cs with
        | some (f, ps) => .pv f (.agg ps)
        | none => .ag cs
      | _ => .any
    | _ => .any

/-- Is the result there? -/
def resGOK (s : St) : Nat × Option (Nat × Nat) → Bool
  | (_, none) => true
  | (a, some (_, n)) => match look s.env a with
    | .ptr id 0 0 0 => match s.rows[id]? with
      | some (.var _ cs) => Nat.beq cs.length n
      | _ => false
    | _ => false

def inQ (us : List Value) (i : Nat) (L : List Nat) (rs : List (Nat × Option (Nat × Nat))) (n t : Nat) (K : St → Prop) (e : Go.Exit) (s' : St) : Prop :=
  (e = .normal ∨ e = .ret) ∧ ∃ cs', s'.rows[i]? = some (.gh us cs') ∧ rs.all (resGOK s') = true ∧ K ⟨n, (t, packS (rs.map (resG s'))) :: L.zip cs', s'.rows.set i .dead⟩

theorem inQ_ret {us : List Value} {i : Nat} {L : List Nat} {rs : List (Nat × Option (Nat × Nat))} {n t : Nat} {K : St → Prop} {s' : St} {cs' : List SV} (h1 : s'.rows[i]? = some (.gh us cs')) (h2 : rs.all (resGOK s') = true)
    (h : K ⟨n, (t, packS (rs.map (resG s'))) :: L.zip cs', s'.rows.set i .dead⟩) : inQ us i L rs n t K .ret s' := ⟨.inr rfl, cs', h1, h2, h⟩
theorem inQ_nrm {us : List Value} {i : Nat} {L : List Nat} {rs : List (Nat × Option (Nat × Nat))} {n t : Nat} {K : St → Prop} {s' : St} {cs' : List SV} (h1 : s'.rows[i]? = some (.gh us cs')) (h2 : rs.all (resGOK s') = true)
    (h : K ⟨n, (t, packS (rs.map (resG s'))) :: L.zip cs', s'.rows.set i .dead⟩) : inQ us i L rs n t K .normal s' := ⟨.inl rfl, cs', h1, h2, h⟩

theorem look_zip2 : ∀ (L : List Nat) (cs : List SV) (u : Nat), look (L.zip cs) u = .any ∨ ∃ (j : Nat) (c : SV), L[j]? = some u ∧ cs[j]? = some c ∧ look (L.zip cs) u = c
  | [], cs, u => .inl (by simp [look])
  | _ :: _, [], u => .inl (by simp [look])
  | l :: L, c :: cs, u => by
    simp only [List.zip_cons_cons, look_cons]
    by_cases h : u = l
    · subst h
      exact .inr ⟨0, c, rfl, rfl, by simp⟩
    · rw [if_neg h]
      rcases look_zip2 L cs u with h1 | ⟨j, c', h1, h2, h3⟩
      · exact .inl h1
      · exact .inr ⟨j + 1, c', by simpa using h1, by simpa using h2, h3⟩

section
variable {P : Program} {C : Ctx} {Q : Go.Exit → St → Prop} {s : St}

/-- A cell of a row's end that is forgotten. -/
theorem SimM.toDead {m : Nat → MV} {a : Act} {w : World} (h : SimM C s m a w) (id : Nat) :
    SimM C { s with rows := s.rows.set id .dead } m a w := by
  have hlive : ∀ j, liveAt (s.rows.set id .dead) j → liveAt s.rows j := by
    intro j ⟨q, hq, hv⟩
    rw [List.getElem?_set] at hq
    split at hq
    · split at hq
      · cases hq; simp [Row.live] at hv
      · cases hq
    · exact ⟨q, hq, hv⟩
  have hG : ∀ f b, Gd C s.rows m w f b → Gd C (s.rows.set id .dead) m w f b ∧ w.heap[b]? = w.heap[b]? :=
    Gd.step (fun _ => False) (Nat.le_refl _) (fun _ _ _ => rfl) (fun _ hf => hf.elim) (fun b _ ⟨j, hl, hbk⟩ => ⟨j, hlive j hl, hbk⟩)
  exact {
    defs := h.defs
    size := h.size
    os := h.os
    tape := h.tape
    output := h.output
    hsz := h.hsz
    old := h.old
    bor := h.bor
    nbl := by simpa using h.nbl
    newb := fun j b hj hl hbk => h.newb j b hj (hlive j hl) hbk
    dist := fun i j b hi hj hbi hbj => h.dist i j b (hlive i hi) (hlive j hj) hbi hbj
    rows := fun j q hq => by
      change (s.rows.set id .dead)[j]? = some q at hq
      rw [List.getElem?_set] at hq
      split at hq
      · split at hq
        · cases hq; exact .dead _
        · cases hq
      · have := RowOK.mono (N' := (s.rows.set id .dead).length) (m' := m) hG (by simp) (fun _ _ => rfl) (h.rows j q hq) (fun _ _ _ => rfl)
        exact this
    env := fun t => (h.env t).mono (m' := m) hG (by simp) (fun _ _ => rfl) }

/-- A row that holds the values of slots. -/
theorem SimM.addGh {m : Nat → MV} {a : Act} {w : World} (h : SimM C s m a w) (us : List Value) (cs : List SV) (hl : us.length = cs.length)
    (hc : ∀ (j : Nat) (c : SV) (u : Value), cs[j]? = some c → us[j]? = some u → RS w (Gd C s.rows m w) m s.rows.length c u) :
    ∃ m', SimM C { s with rows := s.rows ++ [.gh us cs] } m' a w ∧ (∀ fr b, Gd C s.rows m w fr b → Gd C (s.rows ++ [.gh us cs]) m' w fr b ∧ w.heap[b]? = w.heap[b]?) ∧ ∀ id, id < s.rows.length → m' id = m id := by
  have hg : w.grownBy w none := ⟨rfl, rfl, rfl, Nat.le_refl _, fun _ _ _ => rfl⟩
  obtain ⟨h1, h2⟩ := h.addRow hg (.gh us cs) ⟨undef, fun _ => False⟩ (fun b hb => hb.elim) (fun hG => .gh _ us cs hl (fun j c u hcj hu => (hc j c u hcj hu).mono (N' := s.rows.length + 1) hG (by omega) (fun i hi => updM_ne _ _ (by omega))))
  exact ⟨_, h1, h2, fun i hi => updM_ne _ _ (by omega)⟩

theorem run_resG1 {m : Nat → MV} {a : Act} {w : World} (h : SimM C s m a w) {r : Nat × Option (Nat × Nat)} (hT : resT P r) (hok : resGOK s r = true) :
    ∃ v, (resM a.tmps (resVar r)).run P w = .ok v w ∧ RS w (Gd C s.rows m w) m s.rows.length (resG s r) v := by
  obtain ⟨t, _ | ⟨T, n⟩⟩ := r
  · exact ⟨_, rfl, h.env t⟩
  · obtain ⟨D, inf, hu, hD, hinf, hsz⟩ := hT
    simp only [resGOK] at hok
    split at hok
    · rename_i id hid
      split at hok
      · rename_i R cs hrow
        have hl := Nat.eq_of_beq_eq_true hok
        have hg : getO s.env (.tmp t) = .ptr id 0 0 0 := hid
        obtain ⟨b, cur, hv, _, hbk, hcl, hr, h1⟩ := h.var hg hrow
        have hv2 : a.tmps.getD t undef = .pointer (some ⟨b, 0, none⟩) := hv
        refine ⟨.agg cur, ?_, ?_⟩
        · have e := run_loadAt_mid (P := P) w b 0 T cur.toList D (fun j v hj => by
            rw [cell_of_row w b _ cur R (0, 0) hbk]; simpa using hj) hu hD (by rw [hinf]; simp [hsz, hcl, hl])
          simp only [resVar, resM, hv2]
          simpa [Instr.loadAt, Instr.sureAddr, asAddr] using e
        · simp only [resG, hid, hrow]
          split
          · rename_i f ps hcc
            obtain ⟨c1, c2⟩ := collectC_get hcc
            refine .pv _ _ _ (.agg ps cur (by rw [hcl, c1]) (fun j p hp => ?_) (fun j p u hp hu => ?_))
            · obtain ⟨g, h3, _⟩ := c2 j p hp
              have hlt : j < cur.size := by rw [hcl]; exact (List.getElem?_eq_some_iff.1 h3).1
              have hu := Array.getElem?_eq_getElem hlt
              exact (hr _ _ _ h3 hu).pv_inv.notAgg (h1 _ _ hu)
            · obtain ⟨g, h3, h4⟩ := c2 j p hp
              exact RP.flag (G := Gd C s.rows m w) (fun b hb => hb.weak) (hr _ _ _ h3 hu).pv_inv h4
          · exact .ag cs cur hcl hr h1
      · cases hok
    · cases hok

theorem run_resGA {m : Nat → MV} {a : Act} {w : World} (h : SimM C s m a w) {fn : Func} {rs : List (Nat × Option (Nat × Nat))} (hr : fn.results = (rs.map resVar).toArray) (hl : rs.length ≤ 5)
    (hT : ∀ r ∈ rs, resT P r) (hok : rs.all (resGOK s) = true) :
    ∃ us : Array Value, (results fn a.tmps).run P w = .ok (pack us) w ∧ us.size = rs.length ∧ ∀ (j : Nat) (r : Nat × Option (Nat × Nat)), rs[j]? = some r → RS w (Gd C s.rows m w) m s.rows.length (resG s r) (us.getD j undef) := by
  rw [results_eq, hr]
  rw [List.all_eq_true] at hok
  match rs, hl with
  | [], _ => exact ⟨#[], by simp [pack], rfl, fun j r hr => by simp at hr⟩
  | [r1], _ =>
    obtain ⟨v1, h1, k1⟩ := run_resG1 (P := P) h (hT r1 (by simp)) (hok r1 (by simp))
    refine ⟨#[v1], by simp [h1, pack], rfl, fun j r hr => ?_⟩
    match j, hr with
    | 0, hr => cases hr; exact k1
  | [r1, r2], _ =>
    obtain ⟨v1, h1, k1⟩ := run_resG1 (P := P) h (hT r1 (by simp)) (hok r1 (by simp))
    obtain ⟨v2, h2, k2⟩ := run_resG1 (P := P) h (hT r2 (by simp)) (hok r2 (by simp))
    refine ⟨#[v1, v2], by simp [h1, h2, pack], rfl, fun j r hr => ?_⟩
    match j, hr with
    | 0, hr => cases hr; exact k1
    | 1, hr => cases hr; exact k2
  | [r1, r2, r3], _ =>
    obtain ⟨v1, h1, k1⟩ := run_resG1 (P := P) h (hT r1 (by simp)) (hok r1 (by simp))
    obtain ⟨v2, h2, k2⟩ := run_resG1 (P := P) h (hT r2 (by simp)) (hok r2 (by simp))
    obtain ⟨v3, h3, k3⟩ := run_resG1 (P := P) h (hT r3 (by simp)) (hok r3 (by simp))
    refine ⟨#[v1, v2, v3], by simp [h1, h2, h3, pack], rfl, fun j r hr => ?_⟩
    match j, hr with
    | 0, hr => cases hr; exact k1
    | 1, hr => cases hr; exact k2
    | 2, hr => cases hr; exact k3
  | [r1, r2, r3, r4], _ =>
    obtain ⟨v1, h1, k1⟩ := run_resG1 (P := P) h (hT r1 (by simp)) (hok r1 (by simp))
    obtain ⟨v2, h2, k2⟩ := run_resG1 (P := P) h (hT r2 (by simp)) (hok r2 (by simp))
    obtain ⟨v3, h3, k3⟩ := run_resG1 (P := P) h (hT r3 (by simp)) (hok r3 (by simp))
    obtain ⟨v4, h4, k4⟩ := run_resG1 (P := P) h (hT r4 (by simp)) (hok r4 (by simp))
    refine ⟨#[v1, v2, v3, v4], by simp [h1, h2, h3, h4, pack], rfl, fun j r hr => ?_⟩
    match j, hr with
    | 0, hr => cases hr; exact k1
    | 1, hr => cases hr; exact k2
    | 2, hr => cases hr; exact k3
    | 3, hr => cases hr; exact k4
  | [r1, r2, r3, r4, r5], _ =>
    obtain ⟨v1, h1, k1⟩ := run_resG1 (P := P) h (hT r1 (by simp)) (hok r1 (by simp))
    obtain ⟨v2, h2, k2⟩ := run_resG1 (P := P) h (hT r2 (by simp)) (hok r2 (by simp))
    obtain ⟨v3, h3, k3⟩ := run_resG1 (P := P) h (hT r3 (by simp)) (hok r3 (by simp))
    obtain ⟨v4, h4, k4⟩ := run_resG1 (P := P) h (hT r4 (by simp)) (hok r4 (by simp))
    obtain ⟨v5, h5, k5⟩ := run_resG1 (P := P) h (hT r5 (by simp)) (hok r5 (by simp))
    refine ⟨#[v1, v2, v3, v4, v5], by simp [h1, h2, h3, h4, h5, pack], rfl, fun j r hr => ?_⟩
    match j, hr with
    | 0, hr => cases hr; exact k1
    | 1, hr => cases hr; exact k2
    | 2, hr => cases hr; exact k3
    | 3, hr => cases hr; exact k4
    | 4, hr => cases hr; exact k5

/-- The function's code in the call's place: the operation. -/
theorem ow_inline {t : Nat} {ty : TypeId} {pos : String} {af : Array Edge} {gd : Option (Nat × Bool)} {f : FuncId} {fn : Func} {xs : Array Operand} {Ts : Array TypeId} {args : List SV} {c : Code} {m : Nat → MV} {a : Act} {w : World}
    {K : Act → World → Prop} {Q' : Go.Exit → Act → World → Prop} (L : List Nat) (rs : List (Nat × Option (Nat × Nat))) (Kc : St → Prop) (hs : SimM C s m a w)
    (hf : P.funcs[f]? = some fn) (hnm : (fn.name == "runtime.NumGoroutine") = false) (hb : fn.body = some c) (ht : Nat.blt t s.n = true)
    (hr : fn.results = (rs.map resVar).toArray) (hl : rs.length ≤ 5) (hT : ∀ r ∈ rs, resT P r)
    (hargs : xs.toList.map (getO s.env) = args) (hn : Nat.ble args.length fn.ntmps = true)
    (h : ∀ us : List Value, VC P C c (inQ us s.rows.length L rs s.n t Kc) ⟨fn.ntmps, enumE 0 args, s.rows ++ [.gh us (L.map (look s.env))]⟩)
    (hK : ∀ s' a' w', Kc s' → Sim C s' a' w' → K a' w') :
    Oper.wp P ⟨some t, .call ⟨.value (.func f), xs, Ts⟩, ty, pos, af, gd⟩ a w K Q' := by
  unfold Oper.wp
  have hrc : (execOp a.eval ⟨some t, .call ⟨.value (.func f), xs, Ts⟩, ty, pos, af, gd⟩).run P w = .ok (.enter f (xs.map a.eval)) w := run_call (t := t) (ty := ty) (pos := pos) (af := af) hf hnm (by simp [hb]) (some t)
  rw [hrc, Oper.upon_enter]
  have hlen : args.length = xs.size := by rw [← hargs]; simp
  have hn := Nat.le_of_ble_eq_true hn
  let us : List Value := L.map fun t => a.tmps.getD t undef
  obtain ⟨m1, hs1, hG1, hm1⟩ := hs.addGh us (L.map (look s.env)) (by simp [us]) (fun j c u hc hu => by
    simp only [us, List.getElem?_map, Option.map_eq_some_iff] at hc hu
    obtain ⟨t1, ht1, rfl⟩ := hc
    obtain ⟨t2, ht2, rfl⟩ := hu
    rw [ht1] at ht2
    cases ht2
    exact hs.env t1)
  let vals := xs.map a.eval
  have hs2 : SimM C ⟨fn.ntmps, enumE 0 args, s.rows ++ [.gh us (L.map (look s.env))]⟩ m1 { tmps := vals ++ Array.replicate (fn.ntmps - vals.size) undef, defers := [] } w := by
    refine { hs1 with size := ?_, env := fun u => ?_, defs := rfl }
    · simp [vals]; omega
    · show RS _ _ _ _ (look (enumE 0 args) u) _
      rw [look_enumE]
      simp only [Nat.zero_le, if_true, Nat.sub_zero]
      rcases Nat.lt_or_ge u xs.size with hu | hu
      · have hx : args[u]? = some (getO s.env xs[u]) := by rw [← hargs]; simp [hu]
        rw [hx]
        simp only [Option.getD_some]
        have e2 : (vals ++ Array.replicate (fn.ntmps - vals.size) undef).getD u undef = a.eval xs[u] := by
          simp [Array.getD, vals, hu]
          intro hh; omega
        show RS w _ _ _ _ ((vals ++ Array.replicate (fn.ntmps - vals.size) undef).getD u undef)
        rw [e2]
        exact (hs.get xs[u]).mono hG1 (by simp) hm1
      · rw [List.getElem?_eq_none (by omega)]
        exact .any _
  have hcall : Calls P f vals w (fun e w' => ∃ (us' : Array Value) (s' : St) (a' : Act) (m' : Nat → MV) (cs' : List SV), e = .returned (pack us') ∧ us'.size = rs.length ∧ SimM C s' m' a' w' ∧ s'.rows[s.rows.length]? = some (.gh us cs') ∧
      (∀ (j : Nat) (r : Nat × Option (Nat × Nat)), rs[j]? = some r → RS w' (Gd C s'.rows m' w') m' s'.rows.length (resG s' r) (us'.getD j undef)) ∧
      Kc ⟨s.n, (t, packS (rs.map (resG s'))) :: L.zip cs', s'.rows.set s.rows.length .dead⟩) := by
    refine calls_of_wp hf hb ?_
    refine wp_mono (h us _ _ ⟨m1, hs2⟩) ?_
    rintro e a' w' ⟨s', ⟨m', hs'⟩, he, cs', hgh, hok, hkc⟩
    obtain ⟨us', hrun, hul, hus⟩ := run_resGA (P := P) hs' hr hl hT hok
    have key : ∃ v, (results fn a'.tmps).run P w' = .ok v w' ∧ (∃ (us' : Array Value) (s' : St) (a' : Act) (m' : Nat → MV) (cs' : List SV), Ending.returned v = .returned (pack us') ∧ us'.size = rs.length ∧ SimM C s' m' a' w' ∧ s'.rows[s.rows.length]? = some (.gh us cs') ∧
      (∀ (j : Nat) (r : Nat × Option (Nat × Nat)), rs[j]? = some r → RS w' (Gd C s'.rows m' w') m' s'.rows.length (resG s' r) (us'.getD j undef)) ∧
      Kc ⟨s.n, (t, packS (rs.map (resG s'))) :: L.zip cs', s'.rows.set s.rows.length .dead⟩) :=
      ⟨_, hrun, us', s', a', m', cs', rfl, hul, hs', hgh, hus, hkc⟩
    obtain ⟨v, hv1, hv2⟩ := key
    rcases he with rfl | rfl
    · exact ⟨hs'.defs, v, hv1, hv2⟩
    · exact ⟨hs'.defs, v, hv1, hv2⟩
  refine hcall.mono ?_
  rintro e w' ⟨us', s', a', m', cs', rfl, hul, hs', hgh, hus, hkc⟩
  refine hK _ _ _ hkc ⟨m', ?_⟩
  have hlt : s.rows.length < s'.rows.length := (List.getElem?_eq_some_iff.1 hgh).1
  have hrow := hs'.rows _ _ hgh
  have hd := hs'.toDead s.rows.length
  have hGd : ∀ f b, Gd C s'.rows m' w' f b → Gd C (s'.rows.set s.rows.length .dead) m' w' f b ∧ w'.heap[b]? = w'.heap[b]? :=
    Gd.step (fun _ => False) (Nat.le_refl _) (fun _ _ _ => rfl) (fun _ hf => hf.elim) (fun b _ ⟨j, ⟨q, hq, hv⟩, hbk⟩ => ⟨j, by
      rw [List.getElem?_set] at hq
      split at hq
      · cases hq; simp [Row.live] at hv
      · exact ⟨q, hq, hv⟩, hbk⟩)
  have hs3 : SimM C ⟨s.n, L.zip cs', s'.rows.set s.rows.length .dead⟩ m' a w' := {
    defs := hs.defs
    size := hs.size
    os := hd.os
    tape := hd.tape
    output := hd.output
    hsz := hd.hsz
    old := hd.old
    bor := hd.bor
    nbl := hd.nbl
    newb := hd.newb
    dist := hd.dist
    rows := hd.rows
    env := fun u => by
      show RS w' _ _ _ (look (L.zip cs') u) _
      rcases look_zip2 L cs' u with h1 | ⟨j, c', h1, h2, h3⟩
      · rw [h1]; exact .any _
      · rw [h3]
        generalize hmv : m' s.rows.length = mv at hrow
        cases hrow with
        | gh _ _ _ hl9 h9 =>
          have hu : us[j]? = some (a.tmps.getD u undef) := by simp [us, h1]
          exact (h9 j c' _ h2 hu).mono hGd (by simp) (fun _ _ => rfl) }
  refine hs3.put (blt_lt ht) ?_
  have hres : ∀ (j : Nat) (r : Nat × Option (Nat × Nat)), rs[j]? = some r → RS w' (Gd C (s'.rows.set s.rows.length .dead) m' w') m' (s'.rows.set s.rows.length .dead).length (resG s' r) (us'.getD j undef) := fun j r hr => (hus j r hr).mono hGd (by simp) (fun _ _ => rfl)
  match rs, hul, hres with
  | [], hul, _ =>
    have : us' = #[] := Array.eq_empty_of_size_eq_zero (by simpa using hul)
    subst this
    exact .tup _ _ rfl (fun j c v hc => by simp at hc)
  | [r], hul, hres =>
    have h1 : us'.size = 1 := by simpa using hul
    have := hres 0 r rfl
    simp only [packS, pack, h1, dif_pos, List.map_cons, List.map_nil]
    simpa [Array.getD, h1] using this
  | r1 :: r2 :: rs, hul, hres =>
    have h1 : us'.size ≠ 1 := by rw [hul]; simp
    simp only [packS, pack, h1, dif_neg, not_false_iff, List.map_cons]
    refine .tup _ _ (by rw [hul]; simp) (fun j c v hc hv => ?_)
    have hc2 : ((r1 :: r2 :: rs).map (resG s'))[j]? = some c := by simpa using hc
    simp only [List.getElem?_map, Option.map_eq_some_iff] at hc2
    obtain ⟨c', hc', rfl⟩ := hc2
    have := hres j c' hc'
    have e : us'.getD j undef = v := by
      rw [Array.getElem?_eq_some_iff] at hv
      obtain ⟨hlt, e⟩ := hv
      simp [Array.getD, hlt, e]
    rw [e] at this
    exact this

/-- The function's code in the call's place. -/
theorem vo_inline {ops : Array Oper} {rest : List Oper} {t : Nat} {ty : TypeId} {pos : String} {af : Array Edge} {f : FuncId} {fn : Func} {xs : Array Operand} {Ts : Array TypeId} {args : List SV} {c : Code} (L : List Nat) (rs : List (Nat × Option (Nat × Nat)))
    (hf : P.funcs[f]? = some fn) (hnm : (fn.name == "runtime.NumGoroutine") = false) (hb : fn.body = some c) (ht : Nat.blt t s.n = true)
    (hr : fn.results = (rs.map resVar).toArray) (hl : rs.length ≤ 5) (hT : ∀ r ∈ rs, resT P r)
    (hargs : xs.toList.map (getO s.env) = args) (hn : Nat.ble args.length fn.ntmps = true)
    (h : ∀ us : List Value, VC P C c (inQ us s.rows.length L rs s.n t (VO P C ops rest Q)) ⟨fn.ntmps, enumE 0 args, s.rows ++ [.gh us (L.map (look s.env))]⟩) :
    VO P C ops (⟨some t, .call ⟨.value (.func f), xs, Ts⟩, ty, pos, af, none⟩ :: rest) Q s := by
  intro a w ⟨m, hs⟩
  refine wpList_plain rfl fun K hK => ?_
  exact ow_inline L rs (VO P C ops rest Q) hs hf hnm hb ht hr hl hT hargs hn h (fun s' a' w' hk hs' => hK _ _ (hk _ _ hs'))

end
end Go.Vl


/- '!=' on structs of two numbers. -/
namespace Go.Vl
set_option linter.unusedVariables false
set_option linter.unusedSimpArgs false
open Go.RowKit

section
variable {P : Program} {C : Ctx} {Q : Go.Exit → St → Prop} {s : St} {ops : Array Oper} {rest : List Oper} {t : Nat} {ty : TypeId} {pos : String} {af : Array Edge}

theorem lt_neqS2 {xt yt : TypeId} {x y : Operand} {a1 a2 b1 b2 : Int} {f1 f2 : Bool} (h : EqI2 P xt) (hx : getO s.env x = .pv f1 (.agg [.int .i64 a1, .int .i64 a2])) (hy : getO s.env y = .pv f2 (.agg [.int .i64 b1, .int .i64 b2])) :
    Lt P C s ⟨some t, .binOp .neq xt x y yt, ty, pos, af, none⟩ (.pv true (.bool (!(a1 == b1 && a2 == b2)))) := by
  intro m a w hs
  have e1 := hs.get x
  rw [hx] at e1
  have e1 := e1.pv_inv.agg2
  have e2 := hs.get y
  rw [hy] at e2
  have e2 := e2.pv_inv.agg2
  refine ⟨_, fun w' _ => ?_, .pv _ _ _ (.bool _)⟩
  have hg : (eqGuard .neq xt x y (.agg #[.int .i64 a1, .int .i64 a2]) (.agg #[.int .i64 b1, .int .i64 b2])).run P w' = .ok () w' := run_eqGuard_agg w' .neq xt x y _ _ h.2
  have hb : (binOp .neq xt (.agg #[.int .i64 a1, .int .i64 a2]) (.agg #[.int .i64 b1, .int .i64 b2])).run P w' = .ok (.bool (!(a1 == b1 && a2 == b2))) w' := by
    rw [run_neq_struct, h.1]; rfl
  simp only [execOp, e1, e2, Sem.run_bind, hg, Result.andThen_ok, hb]
  rfl

end
section
variable {P : Program}
end
end Go.Vl


/- What yields the same in every world may be taken first, whatever else comes. -/
namespace Go.Vl
set_option linter.unusedVariables false
set_option linter.unusedSimpArgs false
open Go.RowKit

section
variable {P : Program} {ops : Array Oper} {Q : Go.Exit → Act → World → Prop}

def yields0 (P : Program) (ops : Array Oper) (o : Oper) (v : Value) (a : Act) : Prop :=
  (Region.wanted o (yielded ops a.tmps) = true ∧ ∀ w, (execOp a.eval o).run P w = .ok (.value v) w) ∨ (Region.wanted o (yielded ops a.tmps) = false ∧ v = undef)

theorem yields0.step {o : Oper} {v : Value} {a a' : Act} (h : yields0 P ops o v a) (he : execOp a'.eval o = execOp a.eval o)
    (hw : Region.wanted o (yielded ops a'.tmps) = Region.wanted o (yielded ops a.tmps)) : yields0 P ops o v a' := by
  unfold yields0 at *
  rw [he, hw]
  exact h

theorem yields0.op {i : Nat} {o : Oper} {v : Value} {a : Act} {w : World} (hi : ops[i]? = some o) (hy : yields0 P ops o v a) {K : Act → World → Prop} (h : K (a.put o.dst v) w) : wpOp P ops Q i K a w := by
  unfold wpOp
  simp only [hi]
  rcases hy with ⟨hw, hv⟩ | ⟨hw, rfl⟩
  · simp only [hw, if_true, Oper.wp, hv w, Oper.upon]; exact .inl h
  · simp only [hw, Bool.false_eq_true, if_false]; exact h

end

/-- The operation hands back a value that no world changes. -/
def Lt0 (P : Program) (C : Ctx) (s : St) (o : Oper) (sv : SV) : Prop :=
  ∀ m a w, SimM C s m a w → ∃ v, (∀ w', (execOp a.eval o).run P w' = .ok (.value v) w') ∧ RS w (Gd C s.rows m w) m s.rows.length sv v

section
variable {late : List Nat} {P : Program} {C : Ctx} {ops : Array Oper} {K : St → Prop} {s : St} {n : Nat} {listed : Array Bool} {t : Nat} {ty : TypeId} {pos : String} {af : Array Edge}

end
end Go.Vl


/- A row that holds numbers alone points nowhere. -/
namespace Go.Vl
set_option linter.unusedVariables false
set_option linter.unusedSimpArgs false
open Go.RowKit

theorem clean_row {w : World} {G G' : Bool → Nat → Prop} {m m' : Nat → MV} {N N' : Nat} {mv : MV} {t : TypeId} {e : Nat} {nl : Option Bool} {f : Bool} {xs : List PV} (h : RowOK w G m N mv (.own t e nl f xs)) (hp : ∀ x ∈ xs, ∀ c ∈ x.cells, c.scal = true) :
    RowOK w G' m' N' mv (.own t e nl true xs) := by
  cases h with
  | own v t e nl f xs vs hown h1 h2 hw hr =>
    refine .own v t e nl true xs vs hown h1 h2 hw fun i x j c hx hc => ?_
    obtain ⟨u, hu, hq⟩ := hr i x j c hx hc
    exact ⟨u, hu, hq.scal_any (hp x (List.mem_of_getElem? hx) c (List.mem_of_getElem? hc))⟩

section
variable {P : Program} {C : Ctx} {Q : Go.Exit → St → Prop} {s : St} {ops : Array Oper}

theorem SimM.clean {m : Nat → MV} {a : Act} {w : World} (hs : SimM C s m a w) (id : Nat) {el e : Nat} {nl : Option Bool} {f : Bool} {xs : List PV} (hrow : s.rows[id]? = some (.own el e nl f xs)) (hp : ∀ x ∈ xs, ∀ c ∈ x.cells, c.scal = true) :
    SimM C ⟨s.n, s.env, s.rows.set id (.own el e nl true xs)⟩ m a w :=
  hs.storeRow (w' := w) (bo := none) ⟨_, hrow, rfl⟩ (fun _ e => by cases e) ⟨rfl, rfl, rfl, Nat.le_refl _, fun _ _ _ => rfl⟩ _ (fun hG => clean_row (hs.rows id _ hrow) hp)

theorem vo_clean {l : List Oper} (id : Nat) {el e : Nat} {nl : Option Bool} {f : Bool} {xs : List PV} (hrow : s.rows[id]? = some (.own el e nl f xs)) (hp : ∀ x ∈ xs, ∀ c ∈ x.cells, c.scal = true)
    (next : VO P C ops l Q ⟨s.n, s.env, s.rows.set id (.own el e nl true xs)⟩) : VO P C ops l Q s := fun a w ⟨m, hs⟩ => next a w ⟨m, hs.clean id hrow hp⟩
end
end Go.Vl


/- Statements at which two orders of evaluation are known: what holds in whatever order holds in both. -/
namespace Go.Vl
set_option linter.unusedVariables false
set_option linter.unusedSimpArgs false
open Go.RowKit

section
variable {P : Program} {ops : Array Oper} {Q : Go.Exit → Act → World → Prop}

/-- An order in which all can come. -/
def orderB (md : Region.Mode) (ops : Array Oper) : List Nat → List Nat → Bool
  | seen, [] => (List.range ops.size).all fun j => seen.contains j
  | seen, i :: r => (match ops[i]? with
    | some o => o.after.all fun e => !Region.binds md e || seen.contains e.on
    | none => true) && orderB md ops (i :: seen) r

end

end Go.Vl


/- Elements of several cells in a row of the call's own: one cell of them, or a part that is a struct, is read. -/
namespace Go.Vl
set_option linter.unusedVariables false
set_option linter.unusedSimpArgs false
open Go.RowKit

section
variable {P : Program} {C : Ctx} {Q : Go.Exit → St → Prop} {s : St} {ops : Array Oper} {rest : List Oper} {t : Nat} {ty : TypeId} {pos : String} {af : Array Edge}

/-- The cells of an element, as they lie. -/
theorem SimM.elem {m : Nat → MV} {a : Act} {w : World} (hs : SimM C s m a w) {x : Operand} {id R e i o : Nat} {nl : Option Bool} {fr : Bool} {xs : List PV} (hx : getO s.env x = .ptr id e i o) (hrow : s.rows[id]? = some (.own R e nl fr xs)) {p : PV} (hget : xs[i]? = some p) :
    ∃ (b : Nat) (f : Nat → Value), a.eval x = .pointer (some ⟨b, i * e + o, none⟩) ∧ p.fits e ∧ ∀ (j : Nat) (c : PV), p.cells[j]? = some c → w.cell? ⟨b, i * e + j, none⟩ = some (f j) ∧ RP w (Gd C s.rows m w fr) c (f j) := by
  obtain ⟨b, hv, hb, hid⟩ := hs.ptr hx
  have hR := hs.rows id _ hrow
  have hi := (List.getElem?_eq_some_iff.1 hget).1
  generalize hmv : m id = v at *
  cases hR with
  | own v t' e nl fr xs vs hown h1 h2 hw hr =>
    rcases hown.2 with ⟨rfl, hn0⟩ | ⟨g, cap, cur, rfl, _, hh, hle, hmx, hcs, htk⟩
    · omega
    · simp only [MV.of, blk, Option.some.injEq] at hb
      subst hb
      refine ⟨g, fun j => (vs[i * e + j]?).getD undef, hv, hw i p hget, fun j c hc => ?_⟩
      obtain ⟨u, hu, hpu⟩ := hr i p j c hget hc
      refine ⟨?_, by simp only [hu, Option.getD_some]; exact hpu⟩
      simp only [hu, Option.getD_some]; rw [cell_of_row w g _ cur R (0, 0) hh]
      rw [← htk, List.getElem?_take] at hu
      split at hu
      · simpa using hu
      · cases hu

/-- A struct in an element is read. -/
theorem lt_load_ownS {x : Operand} {T id R e i o n : Nat} {nl : Option Bool} {fr : Bool} {xs : List PV} {p d : PV} {D : TypeDesc} {inf : TypeInfo} (hx : getO s.env x = .ptr id e i o) (hrow : s.rows[id]? = some (.own R e nl fr xs))
    (hT : P.underlying T = some D) (hD : D.isRow = true) (hinf : P.info? T = some inf) (hsz : inf.size = n) (hi : i < xs.length) (hp : xs.getD i d = p) (hle : o + n ≤ p.cells.length) :
    Lt P C s ⟨some t, .load T x, ty, pos, af, none⟩ (.pv fr (.agg ((p.cells.drop o).take n))) := by
  intro m a w hs
  have hget : xs[i]? = some p := by rw [← hp]; simp [List.getD, List.getElem?_eq_getElem hi]
  obtain ⟨b, f, hv, hfit, hcl⟩ := hs.elem hx hrow hget
  have hlen : ((List.range n).map fun j => f (o + j)).length = n := by simp
  refine ⟨.agg ((List.range n).map fun j => f (o + j)).toArray, fun w' hw' => ?_, ?_⟩
  · have := run_loadAt_mid (P := P) w' b (i * e + o) T ((List.range n).map fun j => f (o + j)) D (fun j u hj => ?_) hT hD (by rw [hinf]; simp [hsz])
    · simp [execOp, hv, this]
    · have hjn : j < n := by rw [← hlen]; exact (List.getElem?_eq_some_iff.1 hj).1
      simp [hjn] at hj
      subst hj
      have := (hcl (o + j) _ (List.getElem?_eq_getElem (by omega))).1
      rw [show i * e + o + j = i * e + (o + j) by omega]
      exact hw'.cell this
  · refine .pv _ _ _ (.agg _ _ (by simp; omega) (fun j c hj => ?_) (fun j c u hj hu => ?_))
    · rw [List.getElem?_take] at hj
      split at hj
      · rw [List.getElem?_drop] at hj; exact hfit.2 _ c hj
      · cases hj
    · rw [List.getElem?_take] at hj
      split at hj
      · rename_i hjn
        rw [List.getElem?_drop] at hj
        simp [hjn] at hu
        subst hu
        exact (hcl _ c hj).2
      · cases hj

theorem vo_load_ownS {x : Operand} {T id R e i o n : Nat} {nl : Option Bool} {fr : Bool} {xs : List PV} {p d : PV} {D : TypeDesc} {inf : TypeInfo} (ht : Nat.blt t s.n = true) (hx : getO s.env x = .ptr id e i o) (hrow : s.rows[id]? = some (.own R e nl fr xs))
    (hT : P.underlying T = some D) (hD : D.isRow = true) (hinf : P.info? T = some inf) (hsz : inf.size = n) (hi : i < xs.length) (hp : xs.getD i d = p) (hle : o + n ≤ p.cells.length)
    (next : VO P C ops rest Q (s.put t (.pv fr (.agg ((p.cells.drop o).take n))))) : VO P C ops (⟨some t, .load T x, ty, pos, af, none⟩ :: rest) Q s :=
  vo_pure ht (lt_load_ownS hx hrow hT hD hinf hsz hi hp hle) next
end
end Go.Vl


/- A row takes another one in and may move: 'append' of a slice that is the program's own to a row whose slices are its own. -/
namespace Go.Vl
set_option linter.unusedVariables false
set_option linter.unusedSimpArgs false
open Go.RowKit

end Go.Vl


/- Rows whose slices are their own: a slice literal of one such slice, and 'append'. -/
namespace Go.Vl
set_option linter.unusedVariables false
set_option linter.unusedSimpArgs false
open Go.RowKit

section
variable {P : Program} {C : Ctx} {Q : Go.Exit → St → Prop} {s : St} {ops : Array Oper} {rest : List Oper} {t : Nat} {ty : TypeId} {pos : String} {af : Array Edge}

end
end Go.Vl


/- A row whose slices are its own becomes a row of slices that are read alone. -/
namespace Go.Vl
set_option linter.unusedVariables false
set_option linter.unusedSimpArgs false
open Go.RowKit
section
variable {P : Program} {C : Ctx} {Q : Go.Exit → St → Prop} {s : St} {ops : Array Oper}

end
end Go.Vl


/- Structs whose cells are rows of the call's own: built, boxed, read, written. -/
namespace Go.Vl
set_option linter.unusedVariables false
set_option linter.unusedSimpArgs false
open Go.RowKit

def cellsG : SV → Option (List SV)
  | .ag ys => some ys
  | .pv f p => some (p.cells.map fun c => .pv (f || c.scal) c)
  | .ref id => some [.ref id]
  | .ptr id e i o => some [.ptr id e i o]
  | _ => none

def okG (rows : List Row) : SV → Bool
  | .ref id => match rows[id]? with
    | some r => r.live
    | none => false
  | _ => true

section
variable {P : Program} {C : Ctx} {Q : Go.Exit → St → Prop} {s : St}
variable {ops : Array Oper} {rest : List Oper} {t : Nat} {ty : TypeId} {pos : String} {af : Array Edge}

theorem row_one {w : World} {G : Bool → Nat → Prop} {m : Nat → MV} {N : Nat} {mv : MV} {r : Row} (h : RowOK w G m N mv r) (hl : r.live = true) : mv.v.oneCell' = true := by
  cases h with
  | dead => cases hl
  | gh => cases hl
  | own v t e nl fr xs vs hown => rcases hown.2 with ⟨rfl, _⟩ | ⟨g, cap, cur, rfl, _⟩ <;> rfl
  | var => rfl
  | mp => rfl
  | tree mv t e nl h xs vals Sf hown => rcases hown.2 with ⟨h, _⟩ | ⟨g, cap, cur, h, _⟩ <;> rw [h] <;> rfl

theorem cells_one {v : Value} (h : v.oneCell' = true) : v.cells = #[v] := by cases v <;> simp_all [Value.cells, Value.oneCell']

theorem SimM.cellsG {m : Nat → MV} {a : Act} {w : World} (h : SimM C s m a w) {x : Operand} {ys : List SV} (hy : cellsG (getO s.env x) = some ys) (hok : okG s.rows (getO s.env x) = true) :
    (a.eval x).cells.size = ys.length ∧ (∀ (j : Nat) (c : SV) (u : Value), ys[j]? = some c → (a.eval x).cells[j]? = some u → RS w (Gd C s.rows m w) m s.rows.length c u) ∧
      (∀ (j : Nat) (u : Value), (a.eval x).cells[j]? = some u → u.oneCell' = true) := by
  have hv := h.get x
  have one : ∀ (sv : SV) (v : Value), RS w (Gd C s.rows m w) m s.rows.length sv v → v.oneCell' = true → ys = [sv] →
      v.cells.size = ys.length ∧ (∀ (j : Nat) (c : SV) (u : Value), ys[j]? = some c → v.cells[j]? = some u → RS w (Gd C s.rows m w) m s.rows.length c u) ∧ (∀ (j : Nat) (u : Value), v.cells[j]? = some u → u.oneCell' = true) := by
    intro sv v hr h1 e
    subst e
    rw [cells_one h1]
    refine ⟨rfl, fun j c u hc hu => ?_, fun j u hu => ?_⟩
    · match j, hc, hu with
      | 0, hc, hu => simp at hc hu; subst hc; subst hu; exact hr
    · match j, hu with
      | 0, hu => simp at hu; subst hu; exact h1
  generalize getO s.env x = sv at *
  generalize a.eval x = v at *
  cases hv with
  | any => cases hy
  | val => cases hy
  | und => cases hy
  | adr => cases hy
  | tup => cases hy
  | sub => cases hy
  | ag vs us hl h9 h1 => cases hy; exact ⟨hl, h9, h1⟩
  | ref id hid =>
    simp only [Vl.cellsG, Option.some.injEq] at hy
    simp only [okG] at hok
    split at hok
    · rename_i r hr
      exact one _ _ (.ref id hid) (row_one (h.rows id r hr) hok) hy.symm
    · cases hok
  | ptr id e i o b hid hb =>
    simp only [Vl.cellsG, Option.some.injEq] at hy
    exact one _ _ (.ptr id e i o b hid hb) rfl hy.symm
  | pv fr p v hp =>
    simp only [Vl.cellsG, Option.some.injEq] at hy
    subst hy
    have hc := hp.cells
    refine ⟨by simpa using hc.1, fun j c u hcj hu => ?_, fun j u hu => ?_⟩
    · simp only [List.getElem?_map, Option.map_eq_some_iff] at hcj
      obtain ⟨c', hc', rfl⟩ := hcj
      obtain ⟨u', hu', hp'⟩ := hc.2 j c' hc'
      rw [hu] at hu'
      cases hu'
      cases hsc : c'.scal with
      | true => simp only [Bool.or_true]; exact .pv _ _ _ (hp'.scal_any hsc)
      | false => simp only [Bool.or_false]; exact .pv _ _ _ hp'
    · have hj : j < p.cells.length := by rw [← hc.1]; exact (Array.getElem?_eq_some_iff.1 hu).1
      obtain ⟨u', hu', hp'⟩ := hc.2 j _ (List.getElem?_eq_getElem hj)
      rw [hu] at hu'
      cases hu'
      refine hp'.oneCell ?_
      cases hp with
      | agg cs vs hl h1 h9 => exact h1 j _ (List.getElem?_eq_getElem hj)
      | _ => simp only [PV.cells] at hj ⊢; have : j = 0 := by simpa using hj
             subst this; rfl

/-- A struct is read from a variable. -/
theorem lt_load_varG {x : Operand} {T id e i o R n : Nat} {cs : List SV} {D : TypeDesc} {inf : TypeInfo} (hx : getO s.env x = .ptr id e i o) (hrow : s.rows[id]? = some (.var R cs))
    (hT : P.underlying T = some D) (hD : D.isRow = true) (hinf : P.info? T = some inf) (hsz : inf.size = n) (hle : Nat.ble (i * e + o + n) cs.length = true) :
    Lt P C s ⟨some t, .load T x, ty, pos, af, none⟩ (.ag ((cs.drop (i * e + o)).take n)) := by
  intro m a w hs
  have hle := Nat.le_of_ble_eq_true hle
  obtain ⟨b, cur, hv, _, hbk, hl, hr, h1⟩ := hs.var hx hrow
  have hget : ∀ j, ((cur.toList.drop (i * e + o)).take n)[j]? = if j < n then cur[i * e + o + j]? else none := by
    intro j
    rw [List.getElem?_take]
    split
    · rw [List.getElem?_drop]; simp
    · rfl
  refine ⟨.agg ((cur.toList.drop (i * e + o)).take n).toArray, fun w' hw' => ?_, ?_⟩
  · have := run_loadAt_mid (P := P) w' b (i * e + o) T ((cur.toList.drop (i * e + o)).take n) D (fun j v hj => by
      rw [hget] at hj
      split at hj
      · exact hw'.cell (by rw [cell_of_row w b _ cur R (0, 0) hbk]; exact hj)
      · cases hj) hT hD (by rw [hinf]; simp [hsz]; omega)
    simp [execOp, hv, this]
  · refine .ag _ _ (by simp; omega) (fun j c u hc hu => ?_) (fun j u hu => ?_)
    · have hu : ((cur.toList.drop (i * e + o)).take n)[j]? = some u := by simpa using hu
      rw [hget] at hu
      rw [List.getElem?_take, List.getElem?_drop] at hc
      split at hu
      · rename_i hj; rw [if_pos hj] at hc; exact hr _ c u hc hu
      · cases hu
    · have hu : ((cur.toList.drop (i * e + o)).take n)[j]? = some u := by simpa using hu
      rw [hget] at hu
      split at hu
      · exact h1 _ u hu
      · cases hu

theorem vo_load_varG {x : Operand} {T id e i o R n : Nat} {cs : List SV} {D : TypeDesc} {inf : TypeInfo} (ht : Nat.blt t s.n = true) (hx : getO s.env x = .ptr id e i o) (hrow : s.rows[id]? = some (.var R cs))
    (hT : P.underlying T = some D) (hD : D.isRow = true) (hinf : P.info? T = some inf) (hsz : inf.size = n) (hle : Nat.ble (i * e + o + n) cs.length = true)
    (next : VO P C ops rest Q (s.put t (.ag ((cs.drop (i * e + o)).take n)))) : VO P C ops (⟨some t, .load T x, ty, pos, af, none⟩ :: rest) Q s := vo_pure ht (lt_load_varG hx hrow hT hD hinf hsz hle) next

/-- A value of whatever cells is written into a variable. -/
theorem vo_store_varG {x y : Operand} {T id e i o R : Nat} {cs ys : List SV} {inf : TypeInfo} (hx : getO s.env x = .ptr id e i o) (hrow : s.rows[id]? = some (.var R cs))
    (hy : cellsG (getO s.env y) = some ys) (hok : okG s.rows (getO s.env y) = true) (hinf : P.info? T = some inf) (hsz : inf.size = ys.length) (hle : Nat.ble (i * e + o + ys.length) cs.length = true)
    (next : VO P C ops rest Q ⟨s.n, s.env, s.rows.set id (.var R (cs.take (i * e + o) ++ ys ++ cs.drop (i * e + o + ys.length)))⟩) :
    VO P C ops (⟨none, .store T x y, ty, pos, af, none⟩ :: rest) Q s := by
  refine vo_unit (s1 := { s with rows := s.rows.set id (.var R (cs.take (i * e + o) ++ ys ++ cs.drop (i * e + o + ys.length))) }) (fun m a w hs => ?_) next
  have hle := Nat.le_of_ble_eq_true hle
  obtain ⟨b, cur, hv, hm, hbk, hl, hr, h1⟩ := hs.var hx hrow
  obtain ⟨hvl, h, hone1⟩ := hs.cellsG hy hok
  have hone : ∀ u ∈ (a.eval y).cells.toList, u.oneCell' = true := by
    intro u hu
    obtain ⟨j, hj⟩ := List.getElem?_of_mem hu
    exact hone1 j u (by simpa using hj)
  generalize hvs : (a.eval y).cells = vs at *
  have hrun := run_storeCells_at P b (i * e + o) R vs.toList 0 cur w hbk (by simp; omega) hone
  simp only [Nat.add_zero, Array.length_toList, hvl] at hrun
  let cur' := (cur.toList.take (i * e + o) ++ vs.toList ++ cur.toList.drop (i * e + o + ys.length)).toArray
  refine ⟨w.setRow b cur', m, ?_, ?_⟩
  · simp [execOp, Instr.storeAt, hv, Instr.sureAddr, storeVar, sizeOf, typeInfo, hinf, hsz, hvs, hvl, hrun, cur']
  · refine hs.storeRow ⟨_, hrow, rfl⟩ (fun b' e => by cases e; rw [hm]; rfl) (grown_setRow w b cur') _ (fun hG => ?_)
    rw [hm]
    have hheap := setRow_heap w b cur cur' R _ hbk
    have hget : ∀ j, cur'[j]? = if j < i * e + o then cur[j]? else if j < i * e + o + ys.length then vs[j - (i * e + o)]? else cur[j]? := by
      intro j
      simp only [cur', List.getElem?_toArray]
      rw [List.getElem?_append, List.getElem?_append]
      simp only [List.length_append, List.length_take, Array.length_toList, hvl]
      have e1 : min (i * e + o) cur.size = i * e + o := by omega
      rw [e1]
      split
      · split
        · rw [List.getElem?_take, if_pos (by assumption)]; simp
        · simp
      · rw [List.getElem?_drop, show i * e + o + ys.length + (j - (i * e + o + ys.length)) = j by omega]; simp
    have hget2 : ∀ j, (cs.take (i * e + o) ++ ys ++ cs.drop (i * e + o + ys.length))[j]? = if j < i * e + o then cs[j]? else if j < i * e + o + ys.length then ys[j - (i * e + o)]? else cs[j]? := by
      intro j
      rw [List.getElem?_append, List.getElem?_append]
      simp only [List.length_append, List.length_take]
      have e1 : min (i * e + o) cs.length = i * e + o := by omega
      rw [e1]
      split
      · split
        · rw [List.getElem?_take, if_pos (by assumption)]
        · rfl
      · rw [if_neg (by omega), List.getElem?_drop, show i * e + o + ys.length + (j - (i * e + o + ys.length)) = j by omega]
    refine .var b R _ cur' hheap (by simp [cur']; omega) (fun j c u hc hu => ?_) (fun j u hu => ?_)
    · rw [hget2] at hc
      rw [hget] at hu
      split at hc
      · rename_i h3; rw [if_pos h3] at hu; exact (hr j c u hc hu).mono hG (Nat.le_refl _) (fun _ _ => rfl)
      · rename_i h3
        rw [if_neg h3] at hu
        split at hc
        · rename_i h4
          rw [if_pos h4] at hu
          exact (h _ c u hc hu).mono hG (Nat.le_refl _) (fun _ _ => rfl)
        · rename_i h4; rw [if_neg h4] at hu; exact (hr j c u hc hu).mono hG (Nat.le_refl _) (fun _ _ => rfl)
    · rw [hget] at hu
      split at hu
      · exact h1 j u hu
      · split at hu
        · exact hone u (by rw [Array.mem_toList_iff]; exact Array.mem_of_getElem? hu)
        · exact h1 j u hu

/-- A struct of whatever cells gets a variable of its own. -/
theorem vo_boxG {x : Operand} {S : TypeId} {ys : List SV} (ht : Nat.blt t s.n = true) (hy : cellsG (getO s.env x) = some ys) (hok : okG s.rows (getO s.env x) = true)
    (next : VO P C ops rest Q ⟨s.n, (t, .ptr s.rows.length 0 0 0) :: s.env, s.rows ++ [.var S ys]⟩) :
    VO P C ops (⟨some t, .box S x, ty, pos, af, none⟩ :: rest) Q s := by
  refine vo_value (s1 := { s with rows := s.rows ++ [.var S ys] }) (sv := .ptr s.rows.length 0 0 0) ht (fun m a w hs => ?_) next
  obtain ⟨hvl, h, hone1⟩ := hs.cellsG hy hok
  generalize hvs : (a.eval x).cells = vs at *
  have hadd := hs.addRow (w' := w.alloc (.cells vs S)) (World.grownBy_alloc w _ none) (.var S ys) (.of <| .pointer (some ⟨w.heap.size, 0, none⟩))
    (fun b hb => by simp [MV.of, blk] at hb; omega) (fun hG => .var w.heap.size S _ vs (heap_alloc_new w _) hvl (fun j c u hc hu => (h j c u hc hu).mono (N' := s.rows.length + 1) hG (by omega) (fun i hi => updM_ne _ _ (by omega))) hone1)
  refine ⟨.pointer (some ⟨w.heap.size, 0, none⟩), _, _, by simp [execOp, Instr.box, newVar, newRow, hvs], hadd.1, ?_⟩
  exact .ptr s.rows.length 0 0 0 w.heap.size (by simp) (by rw [updM_same]; rfl)

def applyG (pl : List (Nat × Nat)) : List SV → List (Nat × List SV) → Option (List SV)
  | cs, [] => some cs
  | cs, (k, p) :: r => match pl[k]? with
    | some (off, sz) => bif Nat.beq p.length sz && Nat.ble (off + sz) cs.length then applyG pl (cs.take off ++ p ++ cs.drop (off + sz)) r else none
    | none => none

def collectG (env : List (Nat × SV)) (rows : List Row) : List (Nat × Operand) → Option (List (Nat × List SV))
  | [] => some []
  | (k, x) :: r => match cellsG (getO env x), collectG env rows r with
    | some ys, some ps => bif okG rows (getO env x) then some ((k, ys) :: ps) else none
    | _, _ => none

theorem fill_applyG {w : World} {G : Bool → Nat → Prop} {m : Nat → MV} {N : Nat} {pl : List (Nat × Nat)} : ∀ (ps : List (Nat × List SV)) (vs : List (Nat × Value)) (cs out : List SV) (zc : Array Value), RS w G m N (.ag cs) (.agg zc) → applyG pl cs ps = some out →
    ps.length = vs.length → (∀ (j : Nat) (k : Nat) (p : List SV), ps[j]? = some (k, p) → ∃ v, vs[j]? = some (k, v) ∧ RS w G m N (.ag p) (.agg v.cells)) → ∃ zc', Instr.fill (pl.toArray[·]?) zc vs = some zc' ∧ RS w G m N (.ag out) (.agg zc')
  | [], [], cs, out, zc, h0, ha, _, _ => by simp [applyG] at ha; subst ha; exact ⟨zc, rfl, h0⟩
  | [], _ :: _, _, _, _, _, _, hl, _ => by simp at hl
  | _ :: _, [], _, _, _, _, _, hl, _ => by simp at hl
  | (k, p) :: ps, (k', v) :: vs, cs, out, zc, h0, ha, hl, hv => by
    obtain ⟨v', hv1, hv2⟩ := hv 0 k p rfl
    simp at hv1
    obtain ⟨rfl, hvv⟩ := hv1
    subst hvv
    simp only [applyG] at ha
    split at ha
    · rename_i off sz hpl
      cases hb : Nat.beq p.length sz && Nat.ble (off + sz) cs.length with
      | false => rw [hb] at ha; simp at ha
      | true =>
        rw [hb] at ha
        simp only [cond_true] at ha
        simp only [Bool.and_eq_true] at hb
        obtain ⟨b1, b2⟩ := hb
        have b1 := Nat.eq_of_beq_eq_true b1
        have b2 := Nat.le_of_ble_eq_true b2
        cases hv2 with
        | ag _ _ hvl hvr hv1 =>
        cases h0 with
        | ag _ _ hzl h0 h1 =>
          have hfold := Great.foldl_set off v.cells.toList 0 zc
          let zc2 := v.cells.zipIdx.foldl (fun cs (c, j) => cs.setIfInBounds (off + j) c) zc
          have hz2 : zc2 = (v.cells.toList.zipIdx 0).foldl (fun cs (x : Value × Nat) => cs.setIfInBounds (off + x.2) x.1) zc := by
            simp only [zc2]
            rw [← Array.foldl_toList, Array.toList_zipIdx]
          have hget : ∀ q, zc2[q]? = if off ≤ q ∧ q < off + sz then v.cells[q - off]? else zc[q]? := by
            intro q
            rw [hz2, hfold.2 q]
            simp only [Nat.add_zero, Array.length_toList, hvl, b1, hzl, Array.getElem?_toList]
            by_cases hq : off ≤ q ∧ q < off + sz
            · rw [if_pos ⟨hq.1, hq.2, by omega⟩, if_pos hq]
            · rw [if_neg (by omega), if_neg hq]
          have hcget : ∀ q, (cs.take off ++ p ++ cs.drop (off + sz))[q]? = if off ≤ q ∧ q < off + sz then p[q - off]? else cs[q]? := by
            intro q
            have ht : (cs.take off).length = off := by rw [List.length_take]; omega
            by_cases hq : off ≤ q ∧ q < off + sz
            · rw [if_pos hq, List.append_assoc, List.getElem?_append_right (by omega), ht, List.getElem?_append_left (by omega)]
            · rw [if_neg hq]
              rcases Nat.lt_or_ge q off with h | h
              · rw [List.append_assoc, List.getElem?_append_left (by omega), List.getElem?_take, if_pos h]
              · rw [List.getElem?_append_right (by rw [List.length_append]; omega), List.length_append, ht, b1, List.getElem?_drop]
                congr 1
                omega
          have hsz2 : zc2.size = zc.size := by rw [hz2]; exact hfold.1
          have hnew : RS w G m N (.ag (cs.take off ++ p ++ cs.drop (off + sz))) (.agg zc2) := by
            refine .ag _ _ ?_ (fun j c u hc hu => ?_) (fun j u hu => ?_)
            · rw [hsz2, hzl]
              simp only [List.length_append, List.length_take, List.length_drop]
              omega
            · rw [hcget] at hc
              rw [hget] at hu
              by_cases hq : off ≤ j ∧ j < off + sz
              · rw [if_pos hq] at hc hu
                exact hvr _ c u hc hu
              · rw [if_neg hq] at hc hu
                exact h0 j c u hc hu
            · rw [hget] at hu
              by_cases hq : off ≤ j ∧ j < off + sz
              · rw [if_pos hq] at hu; exact hv1 _ u hu
              · rw [if_neg hq] at hu; exact h1 j u hu
          obtain ⟨zc', hf, hr⟩ := fill_applyG ps vs _ out zc2 hnew ha (by simpa using hl) (fun j k2 p2 hj => by
            have := hv (j + 1) k2 p2 (by simpa using hj)
            simpa using this)
          refine ⟨zc', ?_, hr⟩
          have hpl2 : pl.toArray[k']? = some (off, sz) := by simpa using hpl
          simp only [Instr.fill, hpl2]
          rw [if_neg (by simp only [bne_iff_ne, ne_eq, Bool.or_eq_true, decide_eq_true_eq, hvl, b1, hzl]; simp; omega)]
          exact hf
    · cases ha

theorem collectG_vals {m : Nat → MV} {a : Act} {w : World} (h : SimM C s m a w) : ∀ (l : List (Nat × Operand)) (ps : List (Nat × List SV)), collectG s.env s.rows l = some ps →
    ps.length = l.length ∧ ∀ (j : Nat) (k : Nat) (p : List SV), ps[j]? = some (k, p) → ∃ v, (l.map fun q => (q.1, a.eval q.2))[j]? = some (k, v) ∧ RS w (Gd C s.rows m w) m s.rows.length (.ag p) (.agg v.cells)
  | [], ps, hc => by
    simp [collectG] at hc
    subst hc
    exact ⟨rfl, fun j k p hx => by simp at hx⟩
  | (k, x) :: l, ps, hc => by
    simp only [collectG] at hc
    split at hc
    · rename_i ys ps' hx hr
      cases hok : okG s.rows (getO s.env x) with
      | false => rw [hok] at hc; cases hc
      | true =>
        rw [hok] at hc
        simp only [cond_true, Option.some.injEq] at hc
        subst hc
        obtain ⟨h2, h3⟩ := collectG_vals h l ps' hr
        obtain ⟨g1, g2, g3⟩ := h.cellsG hx hok
        refine ⟨by simp [h2], fun j k2 p2 hy => ?_⟩
        cases j with
        | zero => simp at hy; obtain ⟨rfl, rfl⟩ := hy; exact ⟨a.eval x, rfl, .ag _ _ g1 g2 g3⟩
        | succ j =>
          simp only [List.getElem?_cons_succ] at hy
          obtain ⟨v, hv1, hv2⟩ := h3 j k2 p2 hy
          exact ⟨v, by simpa using hv1, hv2⟩
    · cases hc

/-- A struct is built of whatever cells. -/
theorem lt_buildG {S : TypeId} {parts : Array (Nat × Operand)} {pl : List (Nat × Nat)} {zs : List PV} {out : List SV} {ps : List (Nat × List SV)} (hS : StInfo P S pl zs)
    (hp : collectG s.env s.rows parts.toList = some ps) (ha : applyG pl (zs.map fun c => .pv true c) ps = some out) : Lt P C s ⟨some t, .build S parts, ty, pos, af, none⟩ (.ag out) := by
  intro m a w hs
  obtain ⟨⟨fs, hu⟩, zc, hb, hz⟩ := hS
  obtain ⟨h1, h2⟩ := collectG_vals hs parts.toList ps hp
  have hz0 : RS w (Gd C s.rows m w) m s.rows.length (.ag (zs.map fun c => .pv true c)) (.agg zc) := by
    have := hz w (Gd C s.rows m w true)
    cases this with
    | agg _ _ hl h1 h =>
      refine .ag _ _ (by simpa using hl) (fun j c u hc hu => ?_) (fun j u hu => ?_)
      · simp only [List.getElem?_map, Option.map_eq_some_iff] at hc
        obtain ⟨c', hc', rfl⟩ := hc
        exact .pv _ _ _ (h j c' u hc' hu)
      · have hj : j < zs.length := by rw [← hl]; exact (Array.getElem?_eq_some_iff.1 hu).1
        exact (h j _ u (List.getElem?_eq_getElem hj) hu).oneCell (h1 j _ (List.getElem?_eq_getElem hj))
  obtain ⟨zc', hf, hr⟩ := fill_applyG ps (parts.toList.map fun q => (q.1, a.eval q.2)) _ out zc hz0 ha (by simp [h1]) h2
  refine ⟨.agg zc', fun w' _ => ?_, hr⟩
  have hpl : (parts.map fun (i, x) => (i, a.eval x)).toList = parts.toList.map fun q => (q.1, a.eval q.2) := by rw [Array.toList_map]
  have := run_build (P := P) w' S (parts.map fun (i, x) => (i, a.eval x)) zc' (by rw [hpl, hb]; exact hf)
  simp only [execOp, Sem.run_bind, this, Result.andThen_ok]
  rfl

theorem vo_buildG {S : TypeId} {parts : Array (Nat × Operand)} {pl : List (Nat × Nat)} {zs : List PV} {out : List SV} {ps : List (Nat × List SV)} (hS : StInfo P S pl zs) (ht : Nat.blt t s.n = true)
    (hp : collectG s.env s.rows parts.toList = some ps) (ha : applyG pl (zs.map fun c => .pv true c) ps = some out) (next : VO P C ops rest Q (s.put t (.ag out))) : VO P C ops (⟨some t, .build S parts, ty, pos, af, none⟩ :: rest) Q s :=
  vo_pure ht (lt_buildG hS hp ha) next

end
end Go.Vl


/- 'append' to a row whose cells' type is not known (it was taken out of another), and a tree's cell that is known. -/
namespace Go.Vl
set_option linter.unusedVariables false
set_option linter.unusedSimpArgs false
open Go.RowKit
section
variable {P : Program} {C : Ctx} {Q : Go.Exit → St → Prop} {s : St} {ops : Array Oper} {rest : List Oper} {t : Nat} {ty : TypeId} {pos : String} {af : Array Edge}

end
section
variable {late : List Nat} {P : Program} {C : Ctx} {ops : Array Oper} {K : St → Prop} {s s1 : St} {n : Nat} {listed : Array Bool}
def StepV (late : List Nat) (P : Program) (C : Ctx) (ops : Array Oper) (n : Nat) (listed : Array Bool) (K : St → Prop) (s : St) (i : Nat) : Prop :=
  ∀ m a w, SimM C s m a w → wpOp P ops (post0 C K) i (fun a' w' => (ExtW w w' ∨ late.contains i = true) ∧ anyL late P ops (post0 C K) n (listed.setIfInBounds i true) a' w') a w
end
end Go.Vl


/- Rows of structs whose slices are their own: an element's slices are taken out as rows, and put back. -/
namespace Go.Vl
set_option linter.unusedVariables false
set_option linter.unusedSimpArgs false
open Go.RowKit

theorem grown_refl (w : World) : w.grownBy w none := ⟨rfl, rfl, rfl, Nat.le_refl _, fun _ _ _ => rfl⟩

def okTake : PV → Bool
  | .sl _ _ _ => true
  | c => c.scal

def takePV (c : PV) : PV := match c with
  | .sl _ _ _ => .gone
  | c => c

def takeP : PV → PV
  | .agg cs => .agg (cs.map takePV)
  | c => takePV c

def takeSV : Nat → List PV → List SV
  | _, [] => []
  | N, .sl _ _ _ :: cs => .ref N :: takeSV (N + 1) cs
  | N, c :: cs => .pv true c :: takeSV N cs

def takeRows (Rf : Nat → TypeId) : Nat → List PV → List Row
  | _, [] => []
  | k, .sl nl e xs :: cs => .tree (Rf k) e nl none xs :: takeRows Rf (k + 1) cs
  | k, _ :: cs => takeRows Rf k cs

/-- The places of the slices among cells. -/
def takePos : Nat → List PV → List Nat
  | _, [] => []
  | j, .sl _ _ _ :: cs => j :: takePos (j + 1) cs
  | j, _ :: cs => takePos (j + 1) cs

section
variable {P : Program} {C : Ctx} {Q : Go.Exit → St → Prop} {s : St} {ops : Array Oper} {rest : List Oper} {t : Nat} {ty : TypeId} {pos : String} {af : Array Edge}

end
end Go.Vl


/- An element's slices are put back into a row whose slices are its own; literals of such elements, and 'append'. -/
namespace Go.Vl
set_option linter.unusedVariables false
set_option linter.unusedSimpArgs false
open Go.RowKit

def deadAll (ks : List Nat) (rows : List Row) : List Row := ks.foldl (fun r k => r.set k .dead) rows

def refsOf : List SV → List Nat
  | [] => []
  | .ref k :: r => k :: refsOf r
  | _ :: r => refsOf r

/-- What goes into a cell. -/
def pvT (rows : List Row) : SV → Option PV
  | .pv _ c => bif c.scal then some c else none
  | .ref k => match rows[k]? with
    | some (.tree _ e nl none xs) => some (.sl nl e xs)
    | _ => none
  | _ => none

def pvTs (rows : List Row) : List SV → Option (List PV)
  | [] => some []
  | y :: ys => match pvT rows y, pvTs rows ys with
    | some p, some ps => some (p :: ps)
    | _, _ => none

/-- The blocks of a cell's own. -/
def sOf (m : Nat → MV) (ys : List SV) (j b : Nat) : Prop := ∃ k, ys[j]? = some (.ref k) ∧ (m k).S b

section
variable {P : Program} {C : Ctx} {Q : Go.Exit → St → Prop} {s : St} {ops : Array Oper} {rest : List Oper} {t : Nat} {ty : TypeId} {pos : String} {af : Array Edge}

end
end Go.Vl


/- Literals of elements whose slices are their own; 'append' of them; their plain cells. -/
namespace Go.Vl
set_option linter.unusedVariables false
set_option linter.unusedSimpArgs false
open Go.RowKit

section
variable {P : Program} {C : Ctx} {Q : Go.Exit → St → Prop} {s : St} {ops : Array Oper} {rest : List Oper} {t : Nat} {ty : TypeId} {pos : String} {af : Array Edge}

end
end Go.Vl


/- Maps from numbers to numbers that the call made itself. -/
namespace Go.Vl
set_option linter.unusedVariables false
set_option linter.unusedSimpArgs false
open Go.RowKit

def mapI (h : Int → Option Int) : Int → Option PV := fun k => (h k).map intP
def updI (h : Int → Option Int) (k v : Int) : Int → Option Int := fun j => if j = k then some v else h j
def delI (h : Int → Option Int) (k : Int) : Int → Option Int := fun j => if j = k then none else h j
def nilI : Int → Option Int := fun _ => none

section
variable {P : Program} {C : Ctx} {Q : Go.Exit → St → Prop} {s : St} {ops : Array Oper} {rest : List Oper} {t : Nat} {ty : TypeId} {pos : String} {af : Array Edge}

theorem vo_unitV {op : Op} {s1 : St} (hrun : ∀ m a w, SimM C s m a w → ∃ v w' m', (execOp a.eval ⟨none, op, ty, pos, af, none⟩).run P w = .ok (.value v) w' ∧ SimM C s1 m' a w')
    (next : VO P C ops rest Q s1) : VO P C ops (⟨none, op, ty, pos, af, none⟩ :: rest) Q s := by
  intro a w ⟨m, hs⟩
  obtain ⟨v, w', m', hr, hs'⟩ := hrun m a w hs
  refine wpList_plain rfl fun K hK => ?_
  unfold Oper.wp
  rw [hr, Oper.upon_value]
  exact hK _ _ (next _ _ ⟨m', hs'⟩)

theorem MapIs.isKey {es : Array MapEntry} {g : Int → Option PV} (h : MapIs es g) : ∀ x ∈ es.toList, MapKept.IsKey (.int .i64) x.key := by
  intro x hx
  obtain ⟨i, hi⟩ := List.getElem?_of_mem hx
  obtain ⟨k, hk⟩ := h.keys i x (by simpa using hi)
  rw [hk]
  simp [MapKept.IsKey]

theorem MapIs.find {es : Array MapEntry} {g : Int → Option PV} (h : MapIs es g) (k : Int) :
    (Instr.findNow (.int .i64) (.int .i64 k) es.toList 0 = some none ∧ g k = none) ∨
      ∃ j e p, Instr.findNow (.int .i64) (.int .i64 k) es.toList 0 = some (some (j, e.val)) ∧ es[j]? = some e ∧ e.key = .int .i64 k ∧ g k = some p ∧ p.scal = true ∧ RP default (fun _ => False) p e.val := by
  rcases MapKept.findNow_spec (d := .int .i64) (k := .int .i64 k) (by simp [MapKept.IsKey]) es.toList 0 h.isKey with ⟨h1, h2⟩ | ⟨j, e, h1, h2, h3⟩
  · left
    refine ⟨h1, ?_⟩
    cases hg : g k with
    | none => rfl
    | some p =>
      obtain ⟨i, e, hi, he⟩ := h.get k p hg
      exact (h2 e (by rw [Array.mem_toList_iff]; exact Array.mem_of_getElem? hi) he).elim
  · right
    rw [Nat.zero_add] at h1
    have h2' : es[j]? = some e := by simpa using h2
    obtain ⟨p, g1, g2, g3⟩ := h.has j e k h2' h3
    exact ⟨j, e, p, h1, h2', h3, g1, g2, g3⟩

theorem MapIs.upd {es : Array MapEntry} {h : Int → Option Int} (H : MapIs es (mapI h)) {k v : Int} {clock : Nat} :
    (Instr.findNow (.int .i64) (.int .i64 k) es.toList 0 = some none → MapIs (es.push ⟨.int .i64 k, .int .i64 v, clock⟩) (mapI (updI h k v))) ∧
      (∀ j e, Instr.findNow (.int .i64) (.int .i64 k) es.toList 0 = some (some (j, e.val)) → es[j]? = some e → e.key = .int .i64 k → MapIs (es.modify j fun e => { e with key := .int .i64 k, val := .int .i64 v }) (mapI (updI h k v))) := by
  have hrp : RP default (fun _ => False) (intP v) (.int .i64 v) := .int _ _
  constructor
  · intro hf
    rcases H.find k with ⟨_, hg⟩ | ⟨j, e, p, h1, _⟩
    · have hget : ∀ (i : Nat) (x : MapEntry), (es.push ⟨.int .i64 k, .int .i64 v, clock⟩)[i]? = some x → (es[i]? = some x ∧ i < es.size) ∨ (i = es.size ∧ x = ⟨.int .i64 k, .int .i64 v, clock⟩) := by
        intro i x hx
        rw [Array.getElem?_push] at hx
        split at hx
        · rename_i e; cases hx; exact .inr ⟨e, rfl⟩
        · exact .inl ⟨hx, (Array.getElem?_eq_some_iff.1 hx).1⟩
      have hnk : ∀ (i : Nat) (x : MapEntry), es[i]? = some x → x.key ≠ .int .i64 k := by
        intro i x hx he
        obtain ⟨p, g1, _⟩ := H.has i x k hx he
        rw [hg] at g1; cases g1
      refine ⟨fun i x hx => ?_, fun i x k' hx hk' => ?_, fun k' p hp => ?_, fun i j x y hx hy hxy => ?_⟩
      · rcases hget i x hx with ⟨h1, _⟩ | ⟨_, rfl⟩
        · exact H.keys i x h1
        · exact ⟨k, rfl⟩
      · rcases hget i x hx with ⟨h1, _⟩ | ⟨_, rfl⟩
        · obtain ⟨p, g1, g2, g3⟩ := H.has i x k' h1 hk'
          have hne : k' ≠ k := fun e => hnk i x h1 (by rw [hk', e])
          exact ⟨p, by simp only [mapI, updI, if_neg hne]; exact g1, g2, g3⟩
        · cases hk'
          exact ⟨intP v, by simp [mapI, updI], rfl, hrp⟩
      · by_cases e : k' = k
        · subst e
          exact ⟨es.size, ⟨.int .i64 k', .int .i64 v, clock⟩, by simp, rfl⟩
        · have hp' : mapI h k' = some p := by simpa only [mapI, updI, if_neg e] using hp
          obtain ⟨i, x, h1, h2⟩ := H.get k' p hp'
          exact ⟨i, x, by rw [Array.getElem?_push, if_neg (by have := (Array.getElem?_eq_some_iff.1 h1).1; omega)]; exact h1, h2⟩
      · rcases hget i x hx with ⟨h1, h1'⟩ | ⟨h1, rfl⟩ <;> rcases hget j y hy with ⟨h2, h2'⟩ | ⟨h2, rfl⟩
        · exact H.diff i j x y h1 h2 hxy
        · exact (hnk i x h1 hxy).elim
        · exact (hnk j y h2 hxy.symm).elim
        · omega
    · rw [hf] at h1; cases h1
  · intro j e hf he hk
    have hget : ∀ (i : Nat) (x : MapEntry), (es.modify j fun e => { e with key := .int .i64 k, val := .int .i64 v })[i]? = some x → ∃ y, es[i]? = some y ∧ x.key = y.key ∧ ((i ≠ j ∧ x = y) ∨ (i = j ∧ x.val = .int .i64 v)) := by
      intro i x hx
      rw [Array.getElem?_modify] at hx
      split at hx
      · rename_i e0
        subst e0
        rw [he] at hx
        cases hx
        exact ⟨e, he, hk.symm, .inr ⟨rfl, rfl⟩⟩
      · rename_i e0
        exact ⟨x, hx, rfl, .inl ⟨Ne.symm e0, rfl⟩⟩
    refine ⟨fun i x hx => ?_, fun i x k' hx hk' => ?_, fun k' p hp => ?_, fun i i' x y hx hy hxy => ?_⟩
    · obtain ⟨y, h1, h2, _⟩ := hget i x hx
      rw [h2]; exact H.keys i y h1
    · obtain ⟨y, h1, h2, h3⟩ := hget i x hx
      rw [h2] at hk'
      rcases h3 with ⟨h4, rfl⟩ | ⟨rfl, h5⟩
      · obtain ⟨p, g1, g2, g3⟩ := H.has i x k' h1 hk'
        have hne : k' ≠ k := fun e' => h4 (H.diff i j x e h1 he (by rw [hk', hk, e']))
        exact ⟨p, by simp only [mapI, updI, if_neg hne]; exact g1, g2, g3⟩
      · rw [he] at h1; cases h1
        rw [hk] at hk'
        cases hk'
        exact ⟨intP v, by simp [mapI, updI], rfl, by rw [h5]; exact hrp⟩
    · by_cases e' : k' = k
      · subst e'
        exact ⟨j, _, by rw [Array.getElem?_modify, if_pos rfl, he]; rfl, rfl⟩
      · have hp' : mapI h k' = some p := by simpa only [mapI, updI, if_neg e'] using hp
        obtain ⟨i, x, h1, h2⟩ := H.get k' p hp'
        have hij : j ≠ i := fun e0 => by subst e0; rw [he] at h1; cases h1; rw [hk] at h2; cases h2; exact e' rfl
        exact ⟨i, x, by rw [Array.getElem?_modify, if_neg hij]; exact h1, h2⟩
    · obtain ⟨x', h1, h2, _⟩ := hget i x hx
      obtain ⟨y', h3, h4, _⟩ := hget i' y hy
      exact H.diff i i' x' y' h1 h3 (by rw [← h2, ← h4]; exact hxy)

theorem MapIs.del {es : Array MapEntry} {h : Int → Option Int} (H : MapIs es (mapI h)) {k : Int} :
    (mapI h k = none → MapIs es (mapI (delI h k))) ∧ (∀ (j : Nat) (e : MapEntry), es[j]? = some e → e.key = .int .i64 k → MapIs (es.eraseIdxIfInBounds j) (mapI (delI h k))) := by
  constructor
  · intro hg
    have : mapI (delI h k) = mapI h := by
      funext k'
      by_cases e : k' = k
      · subst e; rw [hg]; simp [mapI, delI]
      · simp only [mapI, delI, if_neg e]
    rw [this]
    exact H
  · intro j e he hk
    have hj : j < es.size := (Array.getElem?_eq_some_iff.1 he).1
    have hget : ∀ i, (es.eraseIdxIfInBounds j)[i]? = if i < j then es[i]? else es[i + 1]? := by
      intro i
      unfold Array.eraseIdxIfInBounds
      rw [dif_pos hj, Array.getElem?_eraseIdx]
    have hsrc : ∀ (i : Nat) (x : MapEntry), (es.eraseIdxIfInBounds j)[i]? = some x → ∃ q, es[q]? = some x ∧ q ≠ j ∧ q = if i < j then i else i + 1 := by
      intro i x hx
      rw [hget] at hx
      split at hx
      · rename_i h1; exact ⟨i, hx, by omega, by rw [if_pos h1]⟩
      · rename_i h1; exact ⟨i + 1, hx, by omega, by rw [if_neg h1]⟩
    refine ⟨fun i x hx => ?_, fun i x k' hx hk' => ?_, fun k' p hp => ?_, fun i i' x y hx hy hxy => ?_⟩
    · obtain ⟨q, h1, _⟩ := hsrc i x hx
      exact H.keys q x h1
    · obtain ⟨q, h1, h2, _⟩ := hsrc i x hx
      obtain ⟨p, g1, g2, g3⟩ := H.has q x k' h1 hk'
      have hne : k' ≠ k := fun e' => h2 (H.diff q j x e h1 he (by rw [hk', hk, e']))
      exact ⟨p, by simp only [mapI, delI, if_neg hne]; exact g1, g2, g3⟩
    · have hne : k' ≠ k := by
        intro e'
        simp [mapI, delI, e'] at hp
      have hp' : mapI h k' = some p := by simpa only [mapI, delI, if_neg hne] using hp
      obtain ⟨q, x, h1, h2⟩ := H.get k' p hp'
      have hq : q ≠ j := fun e0 => by subst e0; rw [he] at h1; cases h1; rw [hk] at h2; cases h2; exact hne rfl
      rcases Nat.lt_or_ge q j with h3 | h3
      · exact ⟨q, x, by rw [hget, if_pos h3]; exact h1, h2⟩
      · exact ⟨q - 1, x, by rw [hget, if_neg (by omega), show q - 1 + 1 = q by omega]; exact h1, h2⟩
    · obtain ⟨q, h1, h2, h3⟩ := hsrc i x hx
      obtain ⟨q', h4, h5, h6⟩ := hsrc i' y hy
      have := H.diff q q' x y h1 h4 hxy
      subst this
      split at h3 <;> split at h6 <;> omega

theorem SimM.mapR {m : Nat → MV} {a : Act} {w : World} (hs : SimM C s m a w) {x : Operand} {id : Nat} {g : Int → Option PV} (hx : getO s.env x = .ref id) (hrow : s.rows[id]? = some (.mp g)) :
    ∃ (b : Nat) (es : Array MapEntry) (clock : Nat), a.eval x = .map (some b) ∧ m id = .of (.map (some b)) ∧ w.heap[b]? = some (.map es clock) ∧ MapIs es g := by
  obtain ⟨h1, _⟩ := hs.row hx
  have hR := hs.rows id _ hrow
  generalize m id = mv at *
  cases hR with
  | mp b g es clock hb hm => exact ⟨b, es, clock, h1, rfl, hb, hm⟩

theorem vo_makeMap {T : TypeId} (ht : Nat.blt t s.n = true) (next : VO P C ops rest Q ⟨s.n, (t, .ref s.rows.length) :: s.env, s.rows ++ [Row.mp (mapI nilI)]⟩) :
    VO P C ops (⟨some t, .makeMap T none, ty, pos, af, none⟩ :: rest) Q s := by
  refine vo_value (s1 := ⟨s.n, s.env, s.rows ++ [Row.mp (mapI nilI)]⟩) (sv := .ref s.rows.length) ht (fun m a w hs => ?_) next
  have hadd := hs.addRow (w' := w.alloc (.map #[] 0)) (World.grownBy_alloc w _ none) (.mp (mapI nilI)) (.of (.map (some w.heap.size))) (fun b hb => by simp [MV.of, blk] at hb; omega)
    (fun hG => .mp w.heap.size _ #[] 0 (heap_alloc_new w _) ⟨fun i e h => by simp at h, fun i e k h => by simp at h, fun k p h => by simp [mapI, nilI] at h, fun i j e f h => by simp at h⟩)
  refine ⟨.map (some w.heap.size), _, _, by simp [execOp, Instr.makeMap], hadd.1, ?_⟩
  have := RS.ref (w := w.alloc (.map #[] 0)) (G := Gd C (s.rows ++ [Row.mp (mapI nilI)]) (updM m s.rows.length (.of (.map (some w.heap.size)))) (w.alloc (.map #[] 0))) (m := updM m s.rows.length (.of (.map (some w.heap.size)))) (N := (s.rows ++ [Row.mp (mapI nilI)]).length) s.rows.length (by simp)
  rw [updM_same] at this
  exact this

theorem zero_i64 {E : TypeId} {inf : TypeInfo} (hinf : P.info? E = some inf) (hz : inf.zero = some (.int .i64 0)) (w : World) : (zeroValue E).run P w = .ok (.int .i64 0) w := by
  simp [zeroValue, typeInfo, hinf, hz]

theorem lt_lookup {x y : Operand} {T K E : TypeId} {id : Nat} {f : Bool} {k : Int} {h : Int → Option Int} {inf : TypeInfo} (hx : getO s.env x = .ref id) (hrow : s.rows[id]? = some (.mp (mapI h))) (hy : getO s.env y = .pv f (.int .i64 k))
    (hT : P.underlying T = some (.map K E)) (hK : P.underlying K = some (.int .i64)) (hinf : P.info? E = some inf) (hz : inf.zero = some (.int .i64 0)) :
    Lt P C s ⟨some t, .lookup T x y true, ty, pos, af, none⟩ (.tup [.pv true (.int .i64 ((h k).getD 0)), .pv true (.bool (h k).isSome)]) := by
  intro m a w hs
  obtain ⟨b, es, clock, hv, _, hb, hm⟩ := hs.mapR hx hrow
  have hk := hs.int hy
  have hblt : b < w.heap.size := (Array.getElem?_eq_some_iff.1 hb).1
  refine ⟨.tuple #[.int .i64 ((h k).getD 0), .bool (h k).isSome], fun w' hw' => ?_, ?_⟩
  · have hb' : w'.heap[b]? = some (.map es clock) := by rw [hw'.2 b hblt]; exact hb
    have hck := MapKept.run_checkKey (P := P) (w := w') hK (k := .int .i64 k) (by simp [MapKept.IsKey]) es.isEmpty 9999
    rcases hm.find k with ⟨h1, h2⟩ | ⟨j, e, p, h1, h2, h3, h4, h5, h6⟩
    · have h2 : h k = none := by
        cases hh : h k with
        | none => rfl
        | some v => simp [mapI, hh] at h2
      simp [execOp, Instr.lookup, hv, hk, run_underlying hT, MapKept.run_getObj_map hb', hck, MapKept.run_findKey hK h1, zero_i64 hinf hz, h2, Result.andThen]
    · have h4' : ∃ v, h k = some v ∧ e.val = .int .i64 v := by
        cases hh : h k with
        | none => simp [mapI, hh] at h4
        | some v =>
          simp only [mapI, hh, Option.map_some, Option.some.injEq] at h4
          subst h4
          refine ⟨v, rfl, ?_⟩
          generalize e.val = u at h6
          cases h6
          rfl
      obtain ⟨v, e1, e2⟩ := h4'
      rw [e2] at h1
      simp [execOp, Instr.lookup, hv, hk, run_underlying hT, MapKept.run_getObj_map hb', hck, MapKept.run_findKey hK h1, e1, Result.andThen]
  · refine .tup _ _ rfl (fun j c u hc hu => ?_)
    match j, hc, hu with
    | 0, hc, hu => simp at hc hu; subst hc; subst hu; exact .pv _ _ _ (.int _ _)
    | 1, hc, hu => simp at hc hu; subst hc; subst hu; exact .pv _ _ _ (.bool _)

theorem vo_lookup {x y : Operand} {T K E : TypeId} {id : Nat} {f : Bool} {k : Int} {h : Int → Option Int} {inf : TypeInfo} (ht : Nat.blt t s.n = true) (hx : getO s.env x = .ref id) (hrow : s.rows[id]? = some (.mp (mapI h))) (hy : getO s.env y = .pv f (.int .i64 k))
    (hT : P.underlying T = some (.map K E)) (hK : P.underlying K = some (.int .i64)) (hinf : P.info? E = some inf) (hz : inf.zero = some (.int .i64 0))
    (next : VO P C ops rest Q (s.put t (.tup [.pv true (.int .i64 ((h k).getD 0)), .pv true (.bool (h k).isSome)]))) : VO P C ops (⟨some t, .lookup T x y true, ty, pos, af, none⟩ :: rest) Q s := vo_pure ht (lt_lookup hx hrow hy hT hK hinf hz) next

theorem heap_setB {w : World} {b : Nat} {o o' : Obj} (hb : w.heap[b]? = some o) : (ChangeMaps.setBlock w b o').heap[b]? = some o' ∧ w.grownBy (ChangeMaps.setBlock w b o') (some b) := by
  have hlt : b < w.heap.size := (Array.getElem?_eq_some_iff.1 hb).1
  refine ⟨by simp [ChangeMaps.setBlock, hlt], rfl, rfl, rfl, by simp [ChangeMaps.setBlock], fun k _ hk => ?_⟩
  simp only [ChangeMaps.setBlock]
  rw [Array.getElem?_setIfInBounds, if_neg (fun e => hk (by rw [e]))]

theorem SimM.mapSet {m : Nat → MV} {a : Act} {w : World} (hs : SimM C s m a w) {id b : Nat} {g g' : Int → Option PV} {es es' : Array MapEntry} {clock clock' : Nat} (hrow : s.rows[id]? = some (.mp g)) (hm : m id = .of (.map (some b))) (hb : w.heap[b]? = some (.map es clock)) (hm' : MapIs es' g') :
    SimM C ⟨s.n, s.env, s.rows.set id (.mp g')⟩ m a (ChangeMaps.setBlock w b (.map es' clock')) := by
  obtain ⟨h1, h2⟩ := heap_setB (o' := .map es' clock') hb
  refine hs.storeRow ⟨_, hrow, rfl⟩ (fun b' e => by cases e; rw [hm]; rfl) h2 _ (fun hG => ?_)
  rw [hm]
  exact .mp b g' es' clock' h1 hm'

theorem vo_mapUpdate {x y z : Operand} {T K E : TypeId} {id : Nat} {f f2 : Bool} {k v : Int} {h : Int → Option Int} (hx : getO s.env x = .ref id) (hrow : s.rows[id]? = some (.mp (mapI h))) (hy : getO s.env y = .pv f (.int .i64 k)) (hz : getO s.env z = .pv f2 (.int .i64 v))
    (hT : P.underlying T = some (.map K E)) (hK : P.underlying K = some (.int .i64))
    (next : VO P C ops rest Q ⟨s.n, s.env, s.rows.set id (Row.mp (mapI (updI h k v)))⟩) : VO P C ops (⟨none, .mapUpdate T x y z, ty, pos, af, none⟩ :: rest) Q s := by
  refine vo_unit (s1 := ⟨s.n, s.env, s.rows.set id (Row.mp (mapI (updI h k v)))⟩) (fun m a w hs => ?_) next
  obtain ⟨b, es, clock, hv, hmv, hb, hm⟩ := hs.mapR hx hrow
  have hk := hs.int hy
  have hzv := hs.int hz
  have hck := MapKept.run_checkKey (P := P) (w := w) hK (k := .int .i64 k) (by simp [MapKept.IsKey]) false 9999
  rcases hm.find k with ⟨h1, h2⟩ | ⟨j, e, p, h1, h2, h3, h4, h5, h6⟩
  · refine ⟨_, m, ?_, hs.mapSet (clock' := clock + 1) hrow hmv hb ((hm.upd (v := v) (clock := clock)).1 h1)⟩
    simp [execOp, Instr.mapUpdate, hv, hk, hzv, run_underlying hT, MapKept.run_getObj_map hb, hck, MapKept.run_findKey hK h1, MapKept.run_setObj_map _ hb, Result.andThen, ChangeMaps.setBlock]
  · refine ⟨_, m, ?_, hs.mapSet (clock' := clock) hrow hmv hb ((hm.upd (v := v) (clock := clock)).2 j e h1 h2 h3)⟩
    have hks := MapKept.run_keyThatStays (P := P) (w := w) (d := .int .i64) (k := .int .i64 k) (by simp [MapKept.IsKey])
    simp [execOp, Instr.mapUpdate, hv, hk, hzv, run_underlying hT, MapKept.run_getObj_map hb, hck, MapKept.run_findKey hK h1, h2, h3, hks, MapKept.run_setObj_map _ hb, Result.andThen, ChangeMaps.setBlock]

theorem vo_delete {x y : Operand} {T K E : TypeId} {id : Nat} {f : Bool} {k : Int} {h : Int → Option Int} (hx : getO s.env x = .ref id) (hrow : s.rows[id]? = some (.mp (mapI h))) (hy : getO s.env y = .pv f (.int .i64 k))
    (hT : P.underlying T = some (.map K E)) (hK : P.underlying K = some (.int .i64))
    (next : VO P C ops rest Q ⟨s.n, s.env, s.rows.set id (Row.mp (mapI (delI h k)))⟩) : VO P C ops (⟨none, .call ⟨.builtin .delete, #[x, y], #[T, K]⟩, ty, pos, af, none⟩ :: rest) Q s := by
  refine vo_unitV (s1 := ⟨s.n, s.env, s.rows.set id (Row.mp (mapI (delI h k)))⟩) (fun m a w hs => ?_) next
  obtain ⟨b, es, clock, hv, hmv, hb, hm⟩ := hs.mapR hx hrow
  have hk := hs.int hy
  have hck := MapKept.run_checkKey (P := P) (w := w) hK (k := .int .i64 k) (by simp [MapKept.IsKey]) es.isEmpty 9999
  rcases hm.find k with ⟨h1, h2⟩ | ⟨j, e, p, h1, h2, h3, h4, h5, h6⟩
  · refine ⟨.tuple #[], _, m, ?_, hs.mapSet (clock' := clock) hrow hmv hb (hm.del.1 h2)⟩
    simp [execOp, resolve, invoke, builtin, Builtin.delete_, hv, hk, run_underlying hT, MapKept.run_getObj_map hb, hck, MapKept.run_findKey hK h1, MapKept.run_setObj_map _ hb, Result.andThen, ChangeMaps.setBlock]
  · refine ⟨.tuple #[], _, m, ?_, hs.mapSet (clock' := clock) hrow hmv hb (hm.del.2 j e h2 h3)⟩
    simp [execOp, resolve, invoke, builtin, Builtin.delete_, hv, hk, run_underlying hT, MapKept.run_getObj_map hb, hck, MapKept.run_findKey hK h1, MapKept.run_setObj_map _ hb, Result.andThen, ChangeMaps.setBlock]

theorem vo_clearMap {x : Operand} {T K E : TypeId} {id : Nat} {g : Int → Option PV} (hx : getO s.env x = .ref id) (hrow : s.rows[id]? = some (.mp g))
    (hT : P.underlying T = some (.map K E))
    (next : VO P C ops rest Q ⟨s.n, s.env, s.rows.set id (Row.mp (mapI nilI))⟩) : VO P C ops (⟨none, .call ⟨.builtin .clear, #[x], #[T]⟩, ty, pos, af, none⟩ :: rest) Q s := by
  refine vo_unitV (s1 := ⟨s.n, s.env, s.rows.set id (Row.mp (mapI nilI))⟩) (fun m a w hs => ?_) next
  obtain ⟨b, es, clock, hv, hmv, hb, hm⟩ := hs.mapR hx hrow
  refine ⟨.tuple #[], _, m, ?_, hs.mapSet (es' := #[]) (g' := mapI nilI) (clock' := clock) hrow hmv hb ⟨fun i e h => by simp at h, fun i e k h => by simp at h, fun k p h => by simp [mapI, nilI] at h, fun i j e f h => by simp at h⟩⟩
  simp [execOp, resolve, invoke, builtin, Builtin.clear_, hv, run_underlying hT, MapKept.run_getObj_map hb, MapKept.run_setObj_map _ hb, Result.andThen, ChangeMaps.setBlock]
end
end Go.Vl


/- Parts of a slice of the call's own: 'append(x[:i], x[j:]...)', a slice cut shorter, 'clear' behind its end. -/
namespace Go.Vl
set_option linter.unusedVariables false
set_option linter.unusedSimpArgs false
open Go.RowKit

theorem sliceBounds_ok {P : Program} {C : Ctx} {s : St} {m : Nat → MV} {a : Act} {w w1 : World} (hs : SimM C s m a w) {lo hi : Option Operand} {l' h' len cap d : Nat}
    (hl : bnd s.env lo 0 = some (l' : Int)) (hh : bnd s.env hi d = some (h' : Int)) (hd : hi = none → len = d) (h1 : l' ≤ h') (h2 : h' ≤ cap) : (Instr.sliceBounds true len cap (lo.map a.eval) (hi.map a.eval) none).run P w1 = .ok (l', h', cap) w1 := by
  have r1 : ∀ y code, l' ≤ y → ∀ o, lo = some o → (Instr.sliceBound (a.eval o) y code).run P w1 = .ok l' w1 := by
    intro y code hy o ho
    subst ho
    simp only [bnd] at hl
    split at hl
    · rename_i f' k' n' he
      simp at hl
      subst hl
      have := hs.bnd_run (P := P) (w1 := w1) (y := y) (code := code) he (by omega) (by omega)
      simpa using this
    · simp at hl
  have r2 : ∀ y code, h' ≤ y → ∀ o, hi = some o → (Instr.sliceBound (a.eval o) y code).run P w1 = .ok h' w1 := by
    intro y code hy o ho
    subst ho
    simp only [bnd] at hh
    split at hh
    · rename_i f' k' n' he
      simp at hh
      subst hh
      have := hs.bnd_run (P := P) (w1 := w1) (y := y) (code := code) he (by omega) (by omega)
      simpa using this
    · simp at hh
  cases lo with
  | none =>
    simp [bnd] at hl
    cases hi with
    | none => have := hd rfl; simp [bnd] at hh; simp [Instr.sliceBounds]; omega
    | some o => simp [Instr.sliceBounds, r2 _ _ h2 o rfl]; omega
  | some ol =>
    cases hi with
    | none =>
      have := hd rfl
      simp [bnd] at hh
      have hh : len = h' := by omega
      subst hh
      simp [Instr.sliceBounds, r1 len _ h1 ol rfl]
    | some o => simp [Instr.sliceBounds, r2 _ _ h2 o rfl, r1 h' _ h1 ol rfl]

section
variable {P : Program} {C : Ctx} {Q : Go.Exit → St → Prop} {s : St} {ops : Array Oper} {rest : List Oper} {t : Nat} {ty : TypeId} {pos : String} {af : Array Edge}

theorem addr_mul (b q : Nat) : (⟨b, 0, none⟩ : Addr).add q = ⟨b, q, none⟩ := by
  unfold Addr.add
  split
  · rename_i h; simp [h]
  · simp

/-- A part of a row that is a slice. -/
theorem lt_slice_ref {x : Operand} {lo hi : Option Operand} {id R e : Nat} {nl : Option Bool} {xs : List PV} {T el : TypeId} {inf : TypeInfo} {l h : Int}
    (hx : getO s.env x = .ref id) (hrow : (s.rows[id]?).bind Row.sl = some (R, e, nl, xs)) (hl : bnd s.env lo 0 = some l) (hh : bnd s.env hi xs.length = some h)
    (hT : P.underlying T = some (.slice el)) (hinf : P.info? el = some inf) (hsz : inf.size = e) (h0 : 0 ≤ l) (h1 : l ≤ h) (h2 : h ≤ xs.length) :
    Lt P C s ⟨some t, .slice T x lo hi none, ty, pos, af, none⟩ (.sub id e l.toNat h.toNat xs.length) := by
  intro m a w hs
  obtain ⟨hv, hid⟩ := hs.row hx
  obtain ⟨⟨vals, hown⟩, _, _, _⟩ := hs.sl hrow
  obtain ⟨l', rfl⟩ := Int.eq_ofNat_of_zero_le h0
  obtain ⟨h', rfl⟩ := Int.eq_ofNat_of_zero_le (Int.le_trans h0 h1)
  simp only [Int.toNat_natCast]
  have g1 : l' ≤ h' := by omega
  have g2 : h' ≤ xs.length := by omega
  rcases hown.2 with ⟨e0, hn0⟩ | ⟨g, cap, cur, e0, _, hh', hle, hmx, hsz', htk⟩
  · have hb := fun w1 => sliceBounds_ok (P := P) (w1 := w1) (len := 0) (cap := 0) hs hl hh (fun _ => hn0.symm) g1 (by omega)
    have hl0 : l' = 0 := by omega
    have hh0 : h' = 0 := by omega
    subst hl0; subst hh0
    rw [e0] at hv
    refine ⟨.slice none 0 0, fun w1 _ => ?_, .sub id e 0 0 xs.length _ hid (.inl ⟨e0, rfl, rfl, hn0, rfl⟩)⟩
    simp [execOp, Instr.sliceAt, Instr.slice, run_underlying hT, hv, hb w1, sizeOf, typeInfo, hinf, hsz]
  · have hb := fun w1 => sliceBounds_ok (P := P) (w1 := w1) (len := xs.length) (cap := cap) hs hl hh (fun _ => rfl) g1 (by omega)
    rw [e0] at hv
    refine ⟨.slice (some (if cap = l' then ⟨g, 0, none⟩ else ⟨g, l' * e, none⟩)) (h' - l') (cap - l'), fun w1 _ => ?_, .sub id e l' h' xs.length _ hid (.inr ⟨g, xs.length, cap, e0, g1, g2, hle, rfl⟩)⟩
    have hA : (if cap = l' then some (⟨g, 0, none⟩ : Addr) else some ((⟨g, 0, none⟩ : Addr).add (l' * e))) = some (if cap = l' then ⟨g, 0, none⟩ else ⟨g, l' * e, none⟩) := by
      split <;> simp [addr_mul]
    simp [execOp, Instr.sliceAt, Instr.slice, run_underlying hT, hv, hb w1, sizeOf, typeInfo, hinf, hsz, hA]

theorem vo_slice_ref {x : Operand} {lo hi : Option Operand} {id R e : Nat} {nl : Option Bool} {xs : List PV} {T el : TypeId} {inf : TypeInfo} {l h : Int} (ht : Nat.blt t s.n = true)
    (hx : getO s.env x = .ref id) (hrow : (s.rows[id]?).bind Row.sl = some (R, e, nl, xs)) (hl : bnd s.env lo 0 = some l) (hh : bnd s.env hi xs.length = some h)
    (hT : P.underlying T = some (.slice el)) (hinf : P.info? el = some inf) (hsz : inf.size = e) (h0 : 0 ≤ l) (h1 : l ≤ h) (h2 : h ≤ xs.length)
    (next : VO P C ops rest Q (s.put t (.sub id e l.toNat h.toNat xs.length))) : VO P C ops (⟨some t, .slice T x lo hi none, ty, pos, af, none⟩ :: rest) Q s := vo_pure ht (lt_slice_ref hx hrow hl hh hT hinf hsz h0 h1 h2) next

theorem SimM.sub {m : Nat → MV} {a : Act} {w : World} (hs : SimM C s m a w) {x : Operand} {id e l h c : Nat} (hx : getO s.env x = .sub id e l h c) : isSub (m id).v e l h c (a.eval x) ∧ id < s.rows.length := by
  have := hs.get x
  rw [hx] at this
  generalize a.eval x = v at this
  cases this with
  | sub _ _ _ _ _ _ hid hs => exact ⟨hs, hid⟩

/-- A part of a part that begins at the row's beginning; it may reach behind the row's end. -/
theorem lt_slice_sub {x : Operand} {lo hi : Option Operand} {id e h0' c : Nat} {T el : TypeId} {inf : TypeInfo} {l h : Int}
    (hx : getO s.env x = .sub id e 0 h0' c) (hl : bnd s.env lo 0 = some l) (hh : bnd s.env hi h0' = some h)
    (hT : P.underlying T = some (.slice el)) (hinf : P.info? el = some inf) (hsz : inf.size = e) (h0 : 0 ≤ l) (h1 : l ≤ h) (h2 : h ≤ c) :
    Lt P C s ⟨some t, .slice T x lo hi none, ty, pos, af, none⟩ (.sub id e l.toNat h.toNat c) := by
  intro m a w hs
  obtain ⟨hv, hid⟩ := hs.sub hx
  obtain ⟨l', rfl⟩ := Int.eq_ofNat_of_zero_le h0
  obtain ⟨h', rfl⟩ := Int.eq_ofNat_of_zero_le (Int.le_trans h0 h1)
  simp only [Int.toNat_natCast]
  have g1 : l' ≤ h' := by omega
  have g2 : h' ≤ c := by omega
  rcases hv with ⟨e0, _, q2, q3, e1⟩ | ⟨b, n, cap, e0, q1, q2, q3, e1⟩
  · have hb := fun w1 => sliceBounds_ok (P := P) (w1 := w1) (len := 0) (cap := 0) hs hl hh (fun _ => q2.symm) g1 (by omega)
    have hl0 : l' = 0 := by omega
    have hh0 : h' = 0 := by omega
    subst hl0; subst hh0
    refine ⟨.slice none 0 0, fun w1 _ => ?_, .sub id e 0 0 c _ hid (.inl ⟨e0, rfl, rfl, q3, rfl⟩)⟩
    simp [execOp, Instr.sliceAt, Instr.slice, run_underlying hT, e1, hb w1, sizeOf, typeInfo, hinf, hsz]
  · have hA0 : (if cap = 0 then (⟨b, 0, none⟩ : Addr) else ⟨b, 0 * e, none⟩) = ⟨b, 0, none⟩ := by split <;> simp
    rw [hA0, Nat.sub_zero, Nat.sub_zero] at e1
    have hb := fun w1 => sliceBounds_ok (P := P) (w1 := w1) (len := h0') (cap := cap) hs hl hh (fun _ => rfl) g1 (by omega)
    refine ⟨.slice (some (if cap = l' then ⟨b, 0, none⟩ else ⟨b, l' * e, none⟩)) (h' - l') (cap - l'), fun w1 _ => ?_, .sub id e l' h' c _ hid (.inr ⟨b, n, cap, e0, g1, g2, q3, rfl⟩)⟩
    have hA : (if cap = l' then some (⟨b, 0, none⟩ : Addr) else some ((⟨b, 0, none⟩ : Addr).add (l' * e))) = some (if cap = l' then ⟨b, 0, none⟩ else ⟨b, l' * e, none⟩) := by
      split <;> simp [addr_mul]
    simp [execOp, Instr.sliceAt, Instr.slice, run_underlying hT, e1, hb w1, sizeOf, typeInfo, hinf, hsz, hA]

theorem vo_slice_sub {x : Operand} {lo hi : Option Operand} {id e h0' c : Nat} {T el : TypeId} {inf : TypeInfo} {l h : Int} (ht : Nat.blt t s.n = true)
    (hx : getO s.env x = .sub id e 0 h0' c) (hl : bnd s.env lo 0 = some l) (hh : bnd s.env hi h0' = some h)
    (hT : P.underlying T = some (.slice el)) (hinf : P.info? el = some inf) (hsz : inf.size = e) (h0 : 0 ≤ l) (h1 : l ≤ h) (h2 : h ≤ c)
    (next : VO P C ops rest Q (s.put t (.sub id e l.toNat h.toNat c))) : VO P C ops (⟨some t, .slice T x lo hi none, ty, pos, af, none⟩ :: rest) Q s := vo_pure ht (lt_slice_sub hx hl hh hT hinf hsz h0 h1 h2) next

/-- A part whose bound is checked, and which is not used. -/
theorem lt_slice3_ref {x lo hi mx : Operand} {id R e : Nat} {nl : Option Bool} {xs : List PV} {T el : TypeId} {inf : TypeInfo} {l h q : Int} {f1 f2 f3 : Bool}
    (hx : getO s.env x = .ref id) (hrow : (s.rows[id]?).bind Row.sl = some (R, e, nl, xs)) (hl : getO s.env lo = .pv f1 (.int .i64 l)) (hh : getO s.env hi = .pv f2 (.int .i64 h)) (hm : getO s.env mx = .pv f3 (.int .i64 q))
    (hT : P.underlying T = some (.slice el)) (hinf : P.info? el = some inf) (hsz : inf.size = e) (h0 : 0 ≤ l) (h1 : l ≤ h) (h2 : h ≤ q) (h3 : q ≤ xs.length) :
    Lt P C s ⟨some t, .slice T x (some lo) (some hi) (some mx), ty, pos, af, none⟩ .any := by
  intro m a w hs
  obtain ⟨hv, hid⟩ := hs.row hx
  obtain ⟨⟨vals, hown⟩, _, _, _⟩ := hs.sl hrow
  have e1 := hs.int hl
  have e2 := hs.int hh
  have e3 := hs.int hm
  have : ∃ ao cap, (m id).v = .slice ao xs.length cap ∧ xs.length ≤ cap := by
    rcases hown.2 with ⟨e0, hn0⟩ | ⟨g, cap, cur, e0, _, hh', hle, hmx, hsz', htk⟩
    · exact ⟨none, 0, by rw [e0, hn0], by omega⟩
    · exact ⟨_, cap, e0, hle⟩
  obtain ⟨ao, cap, e0, hle⟩ := this
  rw [e0] at hv
  obtain ⟨l', rfl⟩ := Int.eq_ofNat_of_zero_le h0
  obtain ⟨h', rfl⟩ := Int.eq_ofNat_of_zero_le (Int.le_trans h0 h1)
  obtain ⟨q', rfl⟩ := Int.eq_ofNat_of_zero_le (Int.le_trans (Int.le_trans h0 h1) h2)
  have k1 : l' ≤ h' := by omega
  have k2 : h' ≤ q' := by omega
  have k3 : q' ≤ cap := by omega
  have hb : ∀ w1, (Instr.sliceBounds true xs.length cap (some (a.eval lo)) (some (a.eval hi)) (some (a.eval mx))).run P w1 = .ok (l', h', q') w1 := by
    intro w1
    simp [Instr.sliceBounds, Instr.sliceBound, e1, e2, e3, asIntOf, k1, k2, k3]
  refine ⟨.slice (if q' = l' then ao else ao.map (·.add (l' * e))) (h' - l') (q' - l'), fun w1 _ => ?_, .any _⟩
  · simp [execOp, Instr.sliceAt, Instr.slice, run_underlying hT, hv, hb w1, sizeOf, typeInfo, hinf, hsz]

theorem vo_slice3_ref {x lo hi mx : Operand} {id R e : Nat} {nl : Option Bool} {xs : List PV} {T el : TypeId} {inf : TypeInfo} {l h q : Int} {f1 f2 f3 : Bool} (ht : Nat.blt t s.n = true)
    (hx : getO s.env x = .ref id) (hrow : (s.rows[id]?).bind Row.sl = some (R, e, nl, xs)) (hl : getO s.env lo = .pv f1 (.int .i64 l)) (hh : getO s.env hi = .pv f2 (.int .i64 h)) (hm : getO s.env mx = .pv f3 (.int .i64 q))
    (hT : P.underlying T = some (.slice el)) (hinf : P.info? el = some inf) (hsz : inf.size = e) (h0 : 0 ≤ l) (h1 : l ≤ h) (h2 : h ≤ q) (h3 : q ≤ xs.length)
    (next : VO P C ops rest Q (s.put t .any)) : VO P C ops (⟨some t, .slice T x (some lo) (some hi) (some mx), ty, pos, af, none⟩ :: rest) Q s := vo_pure ht (lt_slice3_ref hx hrow hl hh hm hT hinf hsz h0 h1 h2 h3) next

theorem lt_len_sub {x : Operand} {id e l h c : Nat} {T el : TypeId} (hx : getO s.env x = .sub id e l h c) (hT : P.underlying T = some (.slice el)) :
    Lt P C s ⟨some t, .call ⟨.builtin .len, #[x], #[T]⟩, ty, pos, af, none⟩ (.pv true (.int .i64 ((h - l : Nat) : Int))) := by
  intro m a w hs
  obtain ⟨hv, _⟩ := hs.sub hx
  refine ⟨.int .i64 ((h - l : Nat) : Int), fun w1 _ => ?_, .pv _ _ _ (.int _ _)⟩
  rcases hv with ⟨_, q1, q2, _, e1⟩ | ⟨b, n, cap, _, q1, q2, q3, e1⟩
  · subst q1; subst q2
    simp [execOp, resolve, invoke, builtin, Builtin.len_, e1, run_underlying hT, goInt]
  · simp [execOp, resolve, invoke, builtin, Builtin.len_, e1, run_underlying hT, goInt]

theorem vo_len_sub {x : Operand} {id e l h c : Nat} {T el : TypeId} (ht : Nat.blt t s.n = true) (hx : getO s.env x = .sub id e l h c) (hT : P.underlying T = some (.slice el))
    (next : VO P C ops rest Q (s.put t (.pv true (.int .i64 ((h - l : Nat) : Int))))) : VO P C ops (⟨some t, .call ⟨.builtin .len, #[x], #[T]⟩, ty, pos, af, none⟩ :: rest) Q s := vo_pure ht (lt_len_sub hx hT) next

/-- An element of a part. -/
theorem lt_index_sub {x i : Operand} {f2 : Bool} {id e l h c : Nat} {T el : TypeId} {k : IntKind} {n : Int} {inf : TypeInfo}
    (hx : getO s.env x = .sub id e l h c) (hi : getO s.env i = .pv f2 (.int k n)) (hT : P.underlying T = some (.slice el)) (hinf : P.info? el = some inf) (hsz : inf.size = e)
    (h0 : 0 ≤ n) (hn : n < (h - l : Nat)) : Lt P C s ⟨some t, .indexAddr T x i, ty, pos, af, none⟩ (.ptr id e (l + n.toNat) 0) := by
  intro m a w hs
  obtain ⟨hv, hid⟩ := hs.sub hx
  have e2 := hs.int hi
  obtain ⟨j, rfl⟩ := Int.eq_ofNat_of_zero_le h0
  have hj : j < h - l := by omega
  simp only [Int.toNat_natCast]
  rcases hv with ⟨_, q1, q2, _, e1⟩ | ⟨b, nn, cap, e0, q1, q2, q3, e1⟩
  · omega
  · rw [if_neg (by omega)] at e1
    refine ⟨.pointer (some ⟨b, (l + j) * e, none⟩), fun _ _ => ?_, .ptr id e (l + j) 0 b hid (by rw [e0]; rfl)⟩
    have hadd : (⟨b, l * e, none⟩ : Addr).add (j * e) = ⟨b, (l + j) * e, none⟩ := by
      unfold Addr.add
      rw [Nat.add_mul]
      split
      · rename_i hz; simp [hz]
      · simp
    simp [execOp, Instr.indexAt, e1, e2, asIntOf, run_underlying hT, sizeOf, typeInfo, hinf, hsz, hj, hadd]

theorem vo_index_sub {x i : Operand} {f2 : Bool} {id e l h c : Nat} {T el : TypeId} {k : IntKind} {n : Int} {inf : TypeInfo} (ht : Nat.blt t s.n = true)
    (hx : getO s.env x = .sub id e l h c) (hi : getO s.env i = .pv f2 (.int k n)) (hT : P.underlying T = some (.slice el)) (hinf : P.info? el = some inf) (hsz : inf.size = e)
    (h0 : 0 ≤ n) (hn : n < (h - l : Nat)) (next : VO P C ops rest Q (s.put t (.ptr id e (l + n.toNat) 0))) : VO P C ops (⟨some t, .indexAddr T x i, ty, pos, af, none⟩ :: rest) Q s := vo_pure ht (lt_index_sub hx hi hT hinf hsz h0 hn) next

theorem lt_move_sub {x : Operand} {id e l h c : Nat} (hx : getO s.env x = .sub id e l h c) : Lt P C s ⟨some t, .move x, ty, pos, af, none⟩ (.sub id e l h c) := by rw [← hx]; exact lt_move
theorem lt_assign_sub {x : Operand} {id e l h c : Nat} (hx : getO s.env x = .sub id e l h c) : Lt P C s ⟨some t, .assign x, ty, pos, af, none⟩ (.sub id e l h c) := by rw [← hx]; exact lt_assign
theorem vo_move_sub {x : Operand} {id e l h c : Nat} (ht : Nat.blt t s.n = true) (hx : getO s.env x = .sub id e l h c) (next : VO P C ops rest Q (s.put t (.sub id e l h c))) : VO P C ops (⟨some t, .move x, ty, pos, af, none⟩ :: rest) Q s := vo_pure ht (lt_move_sub hx) next
theorem vo_assign_sub {x : Operand} {id e l h c : Nat} (ht : Nat.blt t s.n = true) (hx : getO s.env x = .sub id e l h c) (next : VO P C ops rest Q (s.put t (.sub id e l h c))) : VO P C ops (⟨some t, .assign x, ty, pos, af, none⟩ :: rest) Q s := vo_pure ht (lt_assign_sub hx) next

theorem run_append_roomR (w : World) (t ty e R : TypeId) (i : TypeInfo) (ht : P.underlying t = some (.slice e)) (hi : P.info? e = some i)
    (g sLen sCap : Nat) (cur : Array Value) (hg : w.heap[g]? = some (.cells cur R (0, 0)))
    (a : Addr) (m c : Nat) (news : List Value) (hl : news.length = m * i.size) (hnews : ∀ j u, news[j]? = some u → w.cell? (a.add j) = some u) (h1 : ∀ u ∈ news, u.oneCell' = true)
    (hroom : sLen + m ≤ sCap) (hfit : sLen * i.size + news.length ≤ cur.size) :
    (Builtin.append_ #[t, t] ty #[.slice (some ⟨g, 0, none⟩) sLen sCap, .slice (some a) m c]).run P w =
      .ok (.slice (some ⟨g, 0, none⟩) (sLen + m) sCap) (w.setRow g (cur.toList.take (sLen * i.size) ++ news ++ cur.toList.drop (sLen * i.size + news.length)).toArray) := by
  have hf := run_firstCells_some (P := P) w i.size m a m c news hl hnews
  have hst := run_storeCells_at P g (sLen * i.size) R news 0 cur w hg (by simpa using hfit) h1
  simp only [Nat.add_zero] at hst
  simp [Builtin.append_, run_underlying ht, sizeOf, typeInfo, hi, Builtin.lenOf, hroom, hf, Addr.add_lit, hst]

/-- 'append(x[:i], x[j:]...)'. -/
theorem vo_append_del {x y : Operand} {id i j n c c' T el R e : Nat} {nl : Option Bool} {fr : Bool} {xs : List PV} {inf : TypeInfo} (ht : Nat.blt t s.n = true) (hnb : C.nb ≤ id)
    (hx : getO s.env x = .sub id e 0 i c) (hy : getO s.env y = .sub id e j n c') (hrow : s.rows[id]? = some (.own R e nl fr xs)) (hn : n = xs.length) (hij : i ≤ j) (hjn : j ≤ n) (hnc : n ≤ c)
    (hT : P.underlying T = some (.slice el)) (hinf : P.info? el = some inf) (hsz : inf.size = e)
    (next : VO P C ops rest Q ⟨s.n, (t, .sub id e 0 (i + (n - j)) c) :: killE id s.env, (s.rows.map (Row.kill id)).set id (.own R e nl fr (xs.take i ++ xs.drop j))⟩) :
    VO P C ops (⟨some t, .call ⟨.builtin .append, #[x, y], #[T, T]⟩, ty, pos, af, none⟩ :: rest) Q s := by
  refine vo_value (s1 := ⟨s.n, killE id s.env, (s.rows.map (Row.kill id)).set id (Row.own R e nl fr (xs.take i ++ xs.drop j))⟩) (sv := .sub id e 0 (i + (n - j)) c) ht (fun m a w hs => ?_) next
  subst hn
  obtain ⟨hvx, hid⟩ := hs.sub hx
  obtain ⟨hvy, _⟩ := hs.sub hy
  have hlid : liveAt s.rows id := ⟨_, hrow, rfl⟩
  have hR := hs.rows id _ hrow
  have hxl : (xs.take i ++ xs.drop j).length = i + (xs.length - j) := by simp; omega
  generalize hmv : m id = mv at *
  cases hR with
  | own v t' e nl fr xs vs hown h1 h2 hw hr =>
  have hvl : vs.length = xs.length * e := hown.1
  rcases hvx with ⟨x0, _, x1, x2, x3⟩ | ⟨b, n0, cap, x0, x1, x2, x3, x4⟩
  · -- nothing is there
    have hxs0 : xs.length = 0 := by
      rcases hown.2 with ⟨_, h⟩ | ⟨g, cap, cur, e0, _⟩
      · exact h
      · rw [show v = Value.slice none 0 0 from x0] at e0; cases e0
    have hxs : xs = [] := List.eq_nil_of_length_eq_zero hxs0
    have hj0 : j = 0 := by omega
    subst hj0
    have hi0 : i = 0 := x1
    subst hi0
    rcases hvy with ⟨_, _, _, _, y3⟩ | ⟨b, n0, cap, y0, _⟩
    · have hg := grown_refl w
      have hmove := hs.moveRow (id := id) hlid hnb (w' := w) (bo := none) (fun b h => by cases h) hg (.own R e nl fr (xs.take 0 ++ xs.drop 0)) (.of v) rfl (fun b hb => .inl (by rw [hmv]; exact hb)) (fun hG => by
        have : xs.take 0 ++ xs.drop 0 = xs := by simp
        rw [this]
        exact .own v R e nl fr xs vs hown h1 h2 hw (fun k y jj c hy hc => let ⟨u, hu, hp⟩ := hr k y jj c hy hc; ⟨u, hu, hp.mono (hG fr)⟩))
      refine ⟨.slice none 0 0, w, _, ?_, hmove, ?_⟩
      · have hyv : a.eval y = .slice none 0 0 := y3
        have hxv : a.eval x = .slice none 0 0 := x3
        simp [execOp, resolve, invoke, builtin, Builtin.append_, hxv, hyv, run_underlying hT, sizeOf, typeInfo, hinf, Builtin.lenOf, Builtin.firstCells]
      · refine .sub id e 0 _ c _ (by simp; exact hid) (.inl ⟨by rw [updM_same]; exact x0, rfl, by omega, x2, rfl⟩)
    · have : v = Value.slice none 0 0 := x0
      have y0 : v = _ := y0
      rw [this] at y0; cases y0
  · have x0 : v = .slice (some ⟨b, 0, none⟩) n0 cap := x0
    rcases hown.2 with ⟨e0, _⟩ | ⟨g, cap', cur, e0, _, hheap, hle, hmx, hcs, htk⟩
    · rw [e0] at x0; cases x0
    · have hbg := x0.symm.trans e0
      injection hbg with q1 q2 q3
      injection q1 with q1
      injection q1 with q1
      subst q1; subst q2; subst q3
      rcases hvy with ⟨y0, _⟩ | ⟨b', n0', cap'', y0, y1, y2, y3, y4⟩
      · have y0 : v = _ := y0
        rw [e0] at y0; cases y0
      · have y0 : v = _ := y0
        have hbg := y0.symm.trans e0
        injection hbg with q1 q2 q3
        injection q1 with q1
        injection q1 with q1
        subst q1; subst q2; subst q3
        have hxv : a.eval x = .slice (some ⟨b', 0, none⟩) i cap'' := by
          rw [x4]
          have : (if cap'' = 0 then (⟨b', 0, none⟩ : Addr) else ⟨b', 0 * e, none⟩) = ⟨b', 0, none⟩ := by split <;> simp
          rw [this]; simp
        let news := vs.drop (j * e)
        have hnl : news.length = (xs.length - j) * e := by simp [news, hvl, Nat.sub_mul]
        have hle2 : xs.length * e ≤ cap'' * e := Nat.mul_le_mul_right e hle
        have hje : j * e ≤ xs.length * e := Nat.mul_le_mul_right e hjn
        have hie : i * e ≤ j * e := Nat.mul_le_mul_right e hij
        have hcell : ∀ q, q < xs.length * e → w.cell? ⟨b', q, none⟩ = vs[q]? := by
          intro q hq
          rw [cell_of_row w b' _ cur R (0, 0) hheap, ← htk, List.getElem?_take, if_pos hq]
          simp
        have hone : ∀ u ∈ news, u.oneCell' = true := by
          intro u hu
          obtain ⟨q, hq⟩ := List.getElem?_of_mem (List.mem_of_mem_drop hu)
          have hq1 : q < xs.length * e := by rw [← hvl]; exact (List.getElem?_eq_some_iff.1 hq).1
          obtain ⟨x9, c9, u9, hx9, hc9, hu9, e9⟩ := cellAt hown hw hq1
          obtain ⟨u8, hu8, hp8⟩ := hr _ x9 _ c9 hx9 hc9
          rw [e9] at hu8
          rw [hq] at hu8
          cases hu8
          exact hp8.oneCell ((hw _ x9 hx9).2 _ c9 hc9)
        have hrun := run_append_roomR (P := P) w T ty el R inf hT hinf b' i cap'' cur hheap (if cap'' = j then ⟨b', 0, none⟩ else ⟨b', j * e, none⟩) (xs.length - j) (cap'' - j) news (by rw [hnl, hsz]) (fun q u hu => by
          have hq : q < news.length := (List.getElem?_eq_some_iff.1 hu).1
          rw [hnl] at hq
          have hne : cap'' ≠ j := by
            intro h9
            have : xs.length - j = 0 := by omega
            rw [this] at hq; omega
          rw [if_neg hne]
          have hadd : (⟨b', j * e, none⟩ : Addr).add q = ⟨b', j * e + q, none⟩ := by
            unfold Addr.add
            split
            · rename_i hz; simp [hz]
            · simp
          have hlt : j * e + q < xs.length * e := by
            have : (xs.length - j) * e = xs.length * e - j * e := Nat.sub_mul ..
            omega
          rw [hadd, hcell _ hlt]
          simpa [news] using hu) hone (by omega) (by rw [hsz, hnl, hcs, ← Nat.add_mul]; exact Nat.mul_le_mul_right e (by omega))
        let cur' := (cur.toList.take (i * inf.size) ++ news ++ cur.toList.drop (i * inf.size + news.length)).toArray
        have hheap' := setRow_heap w b' cur cur' R _ hheap
        have hvs' : (vs.take (i * e) ++ vs.drop (j * e)).length = (xs.take i ++ xs.drop j).length * e := by
          rw [hxl, Nat.add_mul, Nat.sub_mul]
          simp only [List.length_append, List.length_take, List.length_drop, hvl]
          omega
        have hmove := hs.moveRow (id := id) hlid hnb (w' := w.setRow b' cur') (bo := some b') (fun b9 h => by cases h; rw [hmv]; show blk v = some b'; rw [e0]; rfl) (grown_setRow w b' cur') (.own R e nl fr (xs.take i ++ xs.drop j)) (.of (.slice (some ⟨b', 0, none⟩) (i + (xs.length - j)) cap'')) rfl
          (fun b9 hb => .inl (by rw [hmv]; show blk v = some b9; rw [e0]; exact hb)) (fun hG => by
            refine .own _ R e nl fr _ (vs.take (i * e) ++ vs.drop (j * e)) ⟨hvs', .inr ⟨b', cap'', cur', by rw [hxl], Nat.zero_le _, hheap', by rw [hxl]; omega, hmx, ?_, ?_⟩⟩ (fun h => by have := h1 h; rw [e0] at this; cases this) (fun _ h => by cases h) (fun k y hy => ?_) (fun k y jj cc hy hc => ?_)
            · simp only [cur', List.size_toArray, List.length_append, List.length_take, List.length_drop, Array.length_toList, hsz, hnl]
              have : (xs.length - j) * e = xs.length * e - j * e := Nat.sub_mul ..
              omega
            · rw [hxl]
              show List.take _ (cur.toList.take (i * inf.size) ++ news ++ cur.toList.drop (i * inf.size + news.length)) = _
              have hl9 : (cur.toList.take (i * inf.size) ++ news).length = (i + (xs.length - j)) * e := by
                rw [List.length_append, hnl, List.length_take, hsz, Nat.add_mul, Array.length_toList]
                omega
              rw [← hl9, List.take_left', hsz]
              · congr 1
                rw [← htk, List.take_take]
                congr 1
                omega
              · rfl
            · rw [List.getElem?_append] at hy
              split at hy
              · rw [List.getElem?_take] at hy
                split at hy
                · exact hw k y hy
                · cases hy
              · rw [List.getElem?_drop] at hy; exact hw _ y hy
            · have hti : (xs.take i).length = i := by simp; omega
              rw [List.getElem?_append, hti] at hy
              have hvt : (vs.take (i * e)).length = i * e := by rw [List.length_take, hvl]; omega
              split at hy
              · rename_i hki
                rw [List.getElem?_take, if_pos hki] at hy
                have hjj : jj < e := by rw [← (hw k y hy).1]; exact (List.getElem?_eq_some_iff.1 hc).1
                obtain ⟨u, hu, hp⟩ := hr k y jj cc hy hc
                have hlt : k * e + jj < i * e := by
                  have := Nat.mul_le_mul_right e (show k + 1 ≤ i by omega)
                  rw [Nat.add_mul] at this
                  omega
                refine ⟨u, ?_, hp.mono (hG fr)⟩
                rw [List.getElem?_append, hvt, if_pos hlt, List.getElem?_take, if_pos hlt]
                exact hu
              · rename_i hki
                rw [List.getElem?_drop] at hy
                have hjj : jj < e := by rw [← (hw _ y hy).1]; exact (List.getElem?_eq_some_iff.1 hc).1
                obtain ⟨u, hu, hp⟩ := hr _ y jj cc hy hc
                have hge : i * e ≤ k * e := Nat.mul_le_mul_right e (by omega)
                refine ⟨u, ?_, hp.mono (hG fr)⟩
                rw [List.getElem?_append, hvt, if_neg (by omega), List.getElem?_drop]
                rw [← hu]
                congr 1
                have e1 : (j + (k - i)) * e = j * e + (k * e - i * e) := by rw [Nat.add_mul, Nat.sub_mul]
                rw [e1]
                omega)
        refine ⟨.slice (some ⟨b', 0, none⟩) (i + (xs.length - j)) cap'', _, _, ?_, hmove, ?_⟩
        · have hyv : a.eval y = .slice (some (if cap'' = j then ⟨b', 0, none⟩ else ⟨b', j * e, none⟩)) (xs.length - j) (cap'' - j) := y4
          simp only [execOp, resolve, invoke, builtin]
          simp [hxv, hyv, hrun, cur']
        · refine .sub id e 0 _ c _ (by simp; exact hid) (.inr ⟨b', i + (xs.length - j), cap'', by rw [updM_same]; rfl, Nat.zero_le _, by omega, x3, ?_⟩)
          have : (if cap'' = 0 then (⟨b', 0, none⟩ : Addr) else ⟨b', 0 * e, none⟩) = ⟨b', 0, none⟩ := by split <;> simp
          rw [this]; simp

theorem isSub_whole {v u : Value} {e n c : Nat} {w : World} {R : TypeId} {vs : List Value} (h : isSub v e 0 n c u) (hown : w.ownsRow 0 R e v n vs) : u = v := by
  rcases h with ⟨x0, _, _, _, x3⟩ | ⟨b, n0, cap, x0, _, _, _, x4⟩
  · rw [x3, x0]
  · have : (if cap = 0 then (⟨b, 0, none⟩ : Addr) else ⟨b, 0 * e, none⟩) = ⟨b, 0, none⟩ := by split <;> simp
    rw [this, Nat.sub_zero, Nat.sub_zero] at x4
    rcases hown.2 with ⟨e0, _⟩ | ⟨g, cap', cur, e0, _⟩
    · rw [e0] at x0; cases x0
    · rw [x4, x0]
      rw [x0] at e0
      injection e0 with q1 q2 q3
      rw [q2]

/-- A part that is the whole row. -/
theorem vo_unsub {l : List Oper} (u : Nat) {id e n c R : Nat} {nl : Option Bool} {xs : List PV} (hu : look s.env u = .sub id e 0 n c) (hrow : (s.rows[id]?).bind Row.sl = some (R, e, nl, xs)) (hn : n = xs.length)
    (next : VO P C ops l Q ⟨s.n, (u, .ref id) :: s.env, s.rows⟩) : VO P C ops l Q s := by
  intro a w ⟨m, hs⟩
  subst hn
  obtain ⟨⟨vs, hown⟩, hid, _, _⟩ := hs.sl hrow
  refine next a w ⟨m, { hs with env := fun q => ?_ }⟩
  show RS _ _ _ _ (look ((u, .ref id) :: s.env) q) _
  rw [look_cons]
  split
  · rename_i e0
    subst e0
    have hv := hs.env q
    rw [hu] at hv
    generalize a.tmps.getD q undef = x at hv
    cases hv with
    | sub _ _ _ _ _ _ _ hsb => rw [isSub_whole hsb hown]; exact .ref id hid
  · exact hs.env q

/-- 'clear' behind a row's end. -/
theorem vo_clearTail {x : Operand} {id lo hi c T el R e by' : Nat} {nl : Option Bool} {fr : Bool} {xs : List PV} {d : PV} (hI : ElInfo P T el e by' d) (hx : getO s.env x = .sub id e lo hi c) (hrow : s.rows[id]? = some (.own R e nl fr xs)) (hlo : xs.length ≤ lo)
    (next : VO P C ops rest Q s) : VO P C ops (⟨none, .call ⟨.builtin .clear, #[x], #[T]⟩, ty, pos, af, none⟩ :: rest) Q s := by
  obtain ⟨hT, ⟨inf, z, hinf, hsz, hbytes, hz, hzs, hzr⟩, hdf, he⟩ := hI
  refine vo_unitV (s1 := s) (fun m a w hs => ?_) next
  obtain ⟨hvx, hid⟩ := hs.sub hx
  have hlid : liveAt s.rows id := ⟨_, hrow, rfl⟩
  by_cases hlh : hi - lo = 0
  · refine ⟨.tuple #[], w, m, ?_, hs⟩
    rcases hvx with ⟨_, _, _, _, x3⟩ | ⟨b, n0, cap, x0, _, _, _, x4⟩
    · simp [execOp, resolve, invoke, builtin, Builtin.clear_, x3, run_underlying hT]
    · rw [hlh] at x4
      simp [execOp, resolve, invoke, builtin, Builtin.clear_, x4, run_underlying hT]
  · have hR := hs.rows id _ hrow
    generalize hmv : m id = mv at *
    cases hR with
    | own v t' e nl fr xs vs hown h1 h2 hw hr =>
      rcases hvx with ⟨_, x1, x2, _, x3⟩ | ⟨b, n0, cap, x0, x1, x2, x3, x4⟩
      · omega
      · have x0 : v = .slice (some ⟨b, 0, none⟩) n0 cap := x0
        rcases hown.2 with ⟨e0, _⟩ | ⟨g, cap', cur, e0, q0, hheap, hle, hmx, hcs, htk⟩
        · rw [e0] at x0; cases x0
        · have hbg := x0.symm.trans e0
          injection hbg with q1 q2 q3
          injection q1 with q1
          injection q1 with q1
          subst q1; subst q2; subst q3
          rw [if_neg (by omega)] at x4
          have hz1 : ∀ u ∈ (Builtin.zeroCells z.cells (hi - lo)).toList, u.oneCell' = true := by
            intro u hu
            simp only [Builtin.zeroCells, Array.toList_map, List.mem_map] at hu
            obtain ⟨q, _, rfl⟩ := hu
            have hzc := (hzr default (fun _ => True)).cells
            have hlt : q % z.cells.size < z.cells.size := Nat.mod_lt _ (by omega)
            have hu : z.cells[q % z.cells.size]? = some z.cells[q % z.cells.size] := Array.getElem?_eq_getElem hlt
            have hd1 : q % z.cells.size < d.cells.length := by rw [← hzc.1]; exact hlt
            obtain ⟨u', hu', hp'⟩ := hzc.2 _ _ (List.getElem?_eq_getElem hd1)
            rw [hu] at hu'
            cases hu'
            rw [getElem!_pos z.cells _ hlt]
            exact hp'.oneCell (hdf.2 _ _ (List.getElem?_eq_getElem hd1))
          have hzl : (Builtin.zeroCells z.cells (hi - lo)).toList.length = (hi - lo) * e := by simp [Builtin.zeroCells, hzs]
          have hle9 : lo * e + (hi - lo) * e ≤ cap * e := by rw [← Nat.add_mul]; exact Nat.mul_le_mul_right e (by omega)
          have hrun := run_storeCells_at P b (lo * e) R (Builtin.zeroCells z.cells (hi - lo)).toList 0 cur w hheap (by rw [hzl]; omega) hz1
          simp only [Nat.add_zero, hzl] at hrun
          let cur' := (cur.toList.take (lo * e) ++ (Builtin.zeroCells z.cells (hi - lo)).toList ++ cur.toList.drop (lo * e + (hi - lo) * e)).toArray
          have hheap' := setRow_heap w b cur cur' R _ hheap
          have hrows : s.rows.set id (.own R e nl fr xs) = s.rows := by
            refine List.ext_getElem? (fun j => ?_)
            rw [List.getElem?_set]
            split
            · rename_i e1; subst e1; exact hrow.symm
            · rfl
          have hfin := hs.storeRow (id := id) hlid (w' := w.setRow b cur') (bo := some b) (fun b9 h => by cases h; rw [hmv]; show blk v = some b; rw [e0]; rfl) (grown_setRow w b cur') (.own R e nl fr xs) (fun hG => by
            rw [hmv]
            refine .own v R e nl fr xs vs ⟨hown.1, .inr ⟨b, cap, cur', e0, q0, hheap', hle, hmx, ?_, ?_⟩⟩ h1 h2 hw (fun k y jj cc hy hc => let ⟨u, hu, hp⟩ := hr k y jj cc hy hc; ⟨u, hu, hp.mono (hG fr)⟩)
            · simp only [cur', List.size_toArray, List.length_append, List.length_take, List.length_drop, Array.length_toList, hzl, hcs]
              omega
            · have hge : xs.length * e ≤ lo * e := Nat.mul_le_mul_right e hlo
              have hl1 : (cur.toList.take (lo * e)).length = lo * e := by rw [List.length_take, Array.length_toList]; omega
              show List.take _ (cur.toList.take (lo * e) ++ (Builtin.zeroCells z.cells (hi - lo)).toList ++ cur.toList.drop (lo * e + (hi - lo) * e)) = _
              rw [List.append_assoc, List.take_append_of_le_length (by omega), List.take_take, Nat.min_eq_left hge]
              exact htk)
          rw [hrows] at hfin
          refine ⟨.tuple #[], _, m, ?_, hfin⟩
          have hnz : (hi - lo) ≠ 0 := hlh
          obtain ⟨q, hq⟩ := Nat.exists_eq_succ_of_ne_zero hlh
          simp only [execOp, resolve, invoke, builtin]
          rw [hq] at x4 hrun
          simp [Builtin.clear_, x4, run_underlying hT, zeroValue, typeInfo, hinf, hz, hrun, cur', hq]
end
end Go.Vl


/- Loops in which some slots and some rows turn; states made plain. -/
namespace Go.Vl
set_option linter.unusedVariables false
set_option linter.unusedSimpArgs false
open Go.RowKit

def setAll : List Row → List Nat → List Row → List Row
  | rows, [], _ => rows
  | rows, _ :: _, [] => rows
  | rows, i :: is, r :: rs => setAll (rows.set i r) is rs

def pickR (rows : List Row) (ch : List Nat) : List Row := ch.map fun i => (rows[i]?).getD .dead

section
variable {P : Program} {C : Ctx} {Q : Go.Exit → St → Prop} {s : St}

def againE (N : Nat) (Lf Lv ch : List Nat) (k : Nat) (F : List SV) (R : List Row) (I : Nat → List SV → List Row → Prop) (n : Nat) (s' : St) : Prop :=
  again N (Lf ++ Lv) k (fun m us rows => us.take Lf.length = F ∧ ∃ rs, rs.length = ch.length ∧ rows = setAll R ch rs ∧ I m (us.drop Lf.length) rs) n s'

/-- A loop whose slots Lf stay as they are, and all rows but those of ch. -/
theorem vc_loopE {c : Code} (Lf Lv ch : List Nat) (F : List SV) (R : List Row) (I : Nat → List SV → List Row → Prop) (n0 : Nat) (hF : (Lf.map fun t => look s.env t) = F) (hR : s.rows = R) (hnb : C.nb ≤ R.length)
    (hb0 : F.all (SV.bdd R.length) = true ∧ (Lv.map fun t => look s.env t).all (SV.bdd R.length) = true ∧ R.all (Row.bdd R.length) = true) (hself : setAll R ch (pickR R ch) = R)
    (h0 : I n0 (Lv.map fun t => look s.env t) (pickR R ch))
    (hround : ∀ n vs rs, vs.length = Lv.length → rs.length = ch.length → I n vs rs → VC P C c (thn (againE s.n Lf Lv ch R.length F R I n) Q) ⟨s.n, Lf.zip F ++ Lv.zip vs, setAll R ch rs⟩) :
    VC P C (.loop c) Q s := by
  subst hR
  subst hF
  have hl : (Lf.map fun t => look s.env t).length = Lf.length := by simp
  refine vc_loop (Lf ++ Lv) (fun m us rows => us.take Lf.length = (Lf.map fun t => look s.env t) ∧ ∃ rs, rs.length = ch.length ∧ rows = setAll s.rows ch rs ∧ I m (us.drop Lf.length) rs) n0 hnb ⟨?_, hb0.2.2⟩ ⟨?_, pickR s.rows ch, by simp [pickR], hself.symm, ?_⟩ ?_
  · rw [List.map_append, List.all_append, hb0.1, hb0.2.1]; rfl
  · rw [List.map_append]; simp
  · rw [List.map_append, show Lf.length = (Lf.map fun t => look s.env t).length from hl.symm, List.drop_left]; exact h0
  · rintro n vs rows hv - ⟨h1, rs, hrs, rfl, h2⟩
    have hv' : vs.length = Lf.length + Lv.length := by simpa using hv
    have := hround n (vs.drop Lf.length) rs (by simp; omega) hrs h2
    have e : (Lf ++ Lv).zip vs = Lf.zip (Lf.map fun t => look s.env t) ++ Lv.zip (vs.drop Lf.length) := by
      rw [← h1]
      conv => lhs; rw [← List.take_append_drop Lf.length vs]
      exact List.zip_append (by simp; omega)
    rw [e]
    exact this

theorem againE_mk {N : Nat} {Lf Lv ch : List Nat} {k : Nat} {F : List SV} {R : List Row} {I : Nat → List SV → List Row → Prop} {n : Nat} {s' : St} (h0 : Nat.beq s'.n N = true) (h1 : Nat.ble k s'.rows.length = true)
    (h2 : ((Lf ++ Lv).map fun t => look s'.env t).all (SV.bdd k) = true) (h3 : (s'.rows.take k).all (Row.bdd k) = true)
    (hF : (Lf.map fun t => look s'.env t) = F) (hR : s'.rows.take k = setAll R ch (pickR s'.rows ch))
    (h : ∃ n', n' < n ∧ I n' (Lv.map fun t => look s'.env t) (pickR s'.rows ch)) : againE N Lf Lv ch k F R I n s' := by
  refine ⟨⟨Nat.eq_of_beq_eq_true h0, Nat.le_of_ble_eq_true h1, h2, h3⟩, ?_⟩
  obtain ⟨n', hn, hI⟩ := h
  refine ⟨n', hn, ?_, pickR s'.rows ch, by simp [pickR], hR, ?_⟩
  · rw [List.map_append, ← hF]; simp
  · rw [List.map_append, show Lf.length = (Lf.map fun t => look s'.env t).length by simp, List.drop_left]; exact hI
end

section
variable {late : List Nat} {P : Program} {C : Ctx} {Q : Go.Exit → St → Prop} {K : St → Prop} {s s' : St} {ops : Array Oper} {n : Nat} {listed : Array Bool}
theorem vo_stM {l : List Oper} (next : VO P C ops l Q s') (h : s = s' := by (try simp only [St.put, exposeE, killE, SV.expose, SV.kill, Row.expose, Row.kill, rowsAfter_nil, rowsAfter_one, packS, SV.shift, placeOf, enumE, List.zip_cons_cons, List.zip_nil_right, List.map_cons, List.map_nil, List.set_cons_zero, List.set_cons_succ, List.length_cons, List.length_nil, List.cons_append, List.nil_append, List.drop_succ_cons, List.drop_zero, List.drop_nil, List.take_succ_cons, List.take_zero, List.take_nil, List.getElem?_cons_zero, List.getElem?_cons_succ, List.getElem?_nil, Option.getD_some, Option.getD_none, Option.map_some, Option.map_none, Nat.reduceAdd, Nat.reduceSub, Nat.reduceEqDiff, Nat.zero_add, Bool.true_or, PV.scal, Bool.or_false, Bool.or_true, Bool.false_or, Bool.and_true, Bool.and_false, Bool.true_and, reduceIte, reduceCtorEq, SV.kill1, SV.expose1, deadAll, refsOf, List.foldl_cons, List.foldl_nil, takeSV, takeRows, takeP, takePV, setAll, resG, look_cons, Nat.succ.injEq, Nat.add_eq, Nat.mul_one, Nat.mul_zero, Nat.zero_mul, Nat.add_zero, List.map_map, PV.cells, Nat.reduceMul, List.append_nil, Option.some.injEq, Int.toNat_natCast]); exact eq_refl _) : VO P C ops l Q s := vo_st h next
theorem vc_stM {code : Code} (next : VC P C code Q s') (h : s = s' := by (try simp only [St.put, exposeE, killE, SV.expose, SV.kill, Row.expose, Row.kill, rowsAfter_nil, rowsAfter_one, packS, SV.shift, placeOf, enumE, List.zip_cons_cons, List.zip_nil_right, List.map_cons, List.map_nil, List.set_cons_zero, List.set_cons_succ, List.length_cons, List.length_nil, List.cons_append, List.nil_append, List.drop_succ_cons, List.drop_zero, List.drop_nil, List.take_succ_cons, List.take_zero, List.take_nil, List.getElem?_cons_zero, List.getElem?_cons_succ, List.getElem?_nil, Option.getD_some, Option.getD_none, Option.map_some, Option.map_none, Nat.reduceAdd, Nat.reduceSub, Nat.reduceEqDiff, Nat.zero_add, Bool.true_or, PV.scal, Bool.or_false, Bool.or_true, Bool.false_or, Bool.and_true, Bool.and_false, Bool.true_and, reduceIte, reduceCtorEq, SV.kill1, SV.expose1, deadAll, refsOf, List.foldl_cons, List.foldl_nil, takeSV, takeRows, takeP, takePV, setAll, resG, look_cons, Nat.succ.injEq, Nat.add_eq, Nat.mul_one, Nat.mul_zero, Nat.zero_mul, Nat.add_zero, List.map_map, PV.cells, Nat.reduceMul, List.append_nil, Option.some.injEq, Int.toNat_natCast]); exact eq_refl _) : VC P C code Q s := vc_st h next
end
end Go.Vl


/- The way into a function, and what it hands back: values, structs, and rows of its own. -/
namespace Go.Vl
set_option linter.unusedVariables false
set_option linter.unusedSimpArgs false
open Go.RowKit

def retQ (C : Ctx) (rs : List (Nat × Option (Nat × Nat))) (R : List SV → List Row → Prop) (e : Go.Exit) (s : St) : Prop :=
  (e = .normal ∨ e = .ret) ∧ rs.all (resGOK s) = true ∧ ∃ res rows', res.length = rs.length ∧ Hands C (List.range rs.length) res rows' ⟨rs.length, enumE 0 (rs.map (resG s)), s.rows⟩ ∧ R res rows'

section
variable {P : Program}

theorem sat_entry_G {f : FuncId} {fn : Func} {c : Code} {args : List SV} {rows : List Row} {R : List SV → List Row → Prop} {rs : List (Nat × Option (Nat × Nat))} (hf : P.funcs[f]? = some fn) (hb : fn.body = some c)
    (hr : fn.results = (rs.map resVar).toArray) (hl : rs.length ≤ 5) (hn : args.length ≤ fn.ntmps) (hT : ∀ r ∈ rs, resT P r)
    (h : ∀ C : Ctx, C.nb = rows.length → VC P C c (retQ C rs R) ⟨fn.ntmps, enumE 0 args, rows⟩) : SatAt P f args rows R := by
  intro C m vals hnb hA hv hs
  refine calls_of_wp hf hb ?_
  have hs2 : SimM C ⟨fn.ntmps, enumE 0 args, rows⟩ m { tmps := vals ++ Array.replicate (fn.ntmps - vals.size) undef, defers := [] } C.w0 := by
    refine { hs with size := ?_, env := fun t => ?_, defs := rfl }
    · simp; omega
    · have := hs.env t
      show RS _ _ _ _ (look (enumE 0 args) t) _
      change RS _ _ _ _ (look (enumE 0 args) t) _ at this
      by_cases ht : t < vals.size
      · have e : (vals ++ Array.replicate (fn.ntmps - vals.size) undef).getD t undef = vals.getD t undef := by
          simp [Array.getD, ht]
          intro hh; omega
        rw [e]
        exact this
      · have e : look (enumE 0 args) t = .any := by
          rw [look_enumE]
          simp
          rw [List.getElem?_eq_none (by omega)]
          rfl
        rw [e]
        exact .any _
  refine wp_mono (h C hnb _ _ ⟨m, hs2⟩) ?_
  rintro e a w' ⟨s', ⟨m', hs'⟩, he, hok, res, rows', hlen, hh, hR⟩
  obtain ⟨us, hrun, hul, hus⟩ := run_resGA (P := P) hs' hr hl hT hok
  have hs3 : SimM C ⟨rs.length, enumE 0 (rs.map (resG s')), s'.rows⟩ m' ⟨us, []⟩ w' := { hs' with
    defs := rfl
    size := hul
    env := fun t => by
      show RS _ _ _ _ (look (enumE 0 (rs.map (resG s'))) t) _
      rw [look_enumE]
      simp only [Nat.zero_le, if_true, Nat.sub_zero]
      rcases Nat.lt_or_ge t rs.length with ht | ht
      · simp only [List.getElem?_map, List.getElem?_eq_getElem ht, Option.map_some, Option.getD_some]
        exact hus t _ (List.getElem?_eq_getElem ht)
      · simp only [List.getElem?_map, List.getElem?_eq_none ht, Option.map_none, Option.getD_none]
        exact .any _ }
  obtain ⟨m2, hm2⟩ := hh m' _ w' hs3
  have hts : ((List.range rs.length).map fun t => us.getD t undef).toArray = us := by
    apply Array.ext_getElem?
    intro i
    simp only [List.getElem?_toArray, List.getElem?_map]
    rcases Nat.lt_or_ge i rs.length with hi | hi
    · rw [List.getElem?_range hi, Array.getElem?_eq_getElem (by omega)]
      simp [Array.getD, show i < us.size by omega]
    · rw [List.getElem?_eq_none (by simpa using hi), Array.getElem?_eq_none (by omega)]
      rfl
  have key : ∃ v, (results fn a.tmps).run P w' = .ok v w' ∧ (∃ (us : Array Value) (res : List SV) (rows' : List Row) (m' : Nat → MV), Ending.returned v = .returned (pack us) ∧ us.size = res.length ∧
      SimM C ⟨us.size, enumE 0 res, rows'⟩ m' ⟨us, []⟩ w' ∧ R res rows') := by
    refine ⟨_, hrun, us, res, rows', m2, rfl, by rw [hul, hlen], ?_, hR⟩
    change SimM C ⟨_, _, _⟩ m2 ⟨((List.range rs.length).map fun t => us.getD t undef).toArray, []⟩ w' at hm2
    rw [hts] at hm2
    rw [hul]
    simpa using hm2
  obtain ⟨v, hv1, hv2⟩ := key
  rcases he with rfl | rfl
  · exact ⟨hs'.defs, v, hv1, hv2⟩
  · exact ⟨hs'.defs, v, hv1, hv2⟩

theorem retQ_sel {C : Ctx} {rs : List (Nat × Option (Nat × Nat))} {R : List SV → List Row → Prop} {s : St} {e : Go.Exit} {k : Nat} (sel : List Nat) {srows : List Row} (he : e = .normal ∨ e = .ret) (hnb : C.nb = k) (hok : rs.all (resGOK s) = true) (hkl : Nat.ble k s.rows.length = true)
    (h3 : sel.map (placeOf sel) = (List.range sel.length).map some) (hsr : sel.map (fun id => s.rows[id]?) = srows.map some) (hge : sel.all (fun id => Nat.ble k id) = true) (hb1 : (s.rows.take k).all (Row.bdd k) = true) (hb2 : srows.all (Row.bdd 0) = true)
    (hR : R ((List.range rs.length).map fun t => renS k sel (look (enumE 0 (rs.map (resG s))) t)) (s.rows.take k ++ srows)) : retQ C rs R e s :=
  ⟨he, hok, _, _, by simp, hands_sel (s := ⟨rs.length, enumE 0 (rs.map (resG s)), s.rows⟩) (ts := List.range rs.length) sel hnb hkl h3 hsr hge hb1 hb2, hR⟩
end
end Go.Vl


/- A field of an element of a row is written. -/
namespace Go.Vl
set_option linter.unusedVariables false
set_option linter.unusedSimpArgs false
open Go.RowKit
section
variable {P : Program} {C : Ctx} {Q : Go.Exit → St → Prop} {s : St} {ops : Array Oper} {rest : List Oper} {t : Nat} {ty : TypeId} {pos : String} {af : Array Edge}

theorem vo_store_ownC {x y : Operand} {T id R e i o : Nat} {nl : Option Bool} {fr f : Bool} {xs cs : List PV} {c : PV} {inf : TypeInfo} (hx : getO s.env x = .ptr id e i o) (hrow : s.rows[id]? = some (.own R e nl fr xs))
    (hy : getO s.env y = .pv f c) (hna : c.isAgg = false) (hinf : P.info? T = some inf) (hsz : inf.size = 1) (hget : xs[i]? = some (.agg cs)) (ho : Nat.blt o e = true)
    (next : VO P C ops rest Q ⟨s.n, s.env, s.rows.set id (.own R e nl (fr && (f || c.scal)) (xs.set i (.agg (cs.set o c))))⟩) :
    VO P C ops (⟨none, .store T x y, ty, pos, af, none⟩ :: rest) Q s := by
  refine vo_unit (s1 := { s with rows := s.rows.set id (.own R e nl (fr && (f || c.scal)) (xs.set i (.agg (cs.set o c)))) }) (fun m a w hs => ?_) next
  obtain ⟨b, hv, hb, hid⟩ := hs.ptr hx
  have ho := blt_lt ho
  have hvy := hs.get y
  rw [hy] at hvy
  have hvy := hvy.pv_inv
  have hone := hvy.oneCell hna
  have hlive : liveAt s.rows id := ⟨_, hrow, rfl⟩
  have hi : i < xs.length := (List.getElem?_eq_some_iff.1 hget).1
  have hR := hs.rows id _ hrow
  generalize hmv : m id = v at *
  cases hR with
  | own v t' e nl fr xs vs hown h1 h2 hw hr =>
    have hvl : vs.length = xs.length * e := hown.1
    have hf := hw i _ hget
    have hcl : cs.length = e := hf.1
    rcases hown.2 with ⟨rfl, hn0⟩ | ⟨g, cap, cur, rfl, _, hh, hle, hmx, hcs, htk⟩
    · omega
    · simp only [MV.of, blk, Option.some.injEq] at hb
      have hgb : b = g := hb.symm
      subst hgb
      have hlt : i * e + o < xs.length * e := by
        have := Nat.mul_le_mul_right e (show i + 1 ≤ xs.length by omega)
        rw [Nat.add_mul] at this
        omega
      have hle2 : xs.length * e ≤ cap * e := Nat.mul_le_mul_right e hle
      have hcur : i * e + o < cur.size := by omega
      have hcell : w.cell? ⟨b, i * e + o, none⟩ = some cur[i * e + o] := by
        rw [cell_of_row w b _ cur R (0, 0) hh]; exact Array.getElem?_eq_getElem hcur
      have hfz : w.frozen? ⟨b, i * e + o, none⟩ = false := by simp [World.frozen?, hh]
      have hcells : (a.eval y).cells.toList = [a.eval y] := oneCell_cells hone
      have hcs1 : (a.eval y).cells.size = 1 := by
        have := congrArg List.length hcells
        simpa using this
      let w' := w.setCell ⟨b, i * e + o, none⟩ (a.eval y)
      have hst : (store (⟨b, i * e + o, none⟩ : Addr) (a.eval y)).run P w = .ok () w' := by
        rw [run_store P w _ _ _ hone, hcell]
        simp [hfz, w']
      have hheap' : w'.heap[b]? = some (.cells (cur.setIfInBounds (i * e + o) (a.eval y)) R (0, 0)) := heap_setCell_same w b (i * e + o) cur R _ hh
      have hg : w.grownBy w' (some b) := ⟨rfl, rfl, rfl, by simp [w', World.setCell], fun k _ hk => heap_setCell_other w ⟨b, i * e + o, none⟩ k _ (fun e => hk (by rw [e]))⟩
      refine ⟨w', m, ?_, ?_⟩
      · have hadd : (⟨b, i * e + o, none⟩ : Addr).add 0 = ⟨b, i * e + o, none⟩ := rfl
        simp [execOp, Instr.storeAt, hv, Instr.sureAddr, storeVar, sizeOf, typeInfo, hinf, hsz, hcs1, hcells, storeCells, hadd, hst]
      · refine hs.storeRow hlive (fun b' e => by cases e; rw [hmv]; rfl) hg _ (fun hG => ?_)
        rw [hmv]
        have hcomb : ∀ b, Gd C s.rows m w fr b → Gd C s.rows m w (fr && (f || c.scal)) b := by
          intro b hb
          cases hf1 : fr && (f || c.scal) with
          | false => exact hb.weak
          | true => simp only [Bool.and_eq_true] at hf1; rw [hf1.1] at hb; exact hb
        refine .own _ R e nl _ (xs.set i (.agg (cs.set o c))) (vs.set (i * e + o) (a.eval y)) ⟨by simp [hvl], .inr ⟨b, cap, _, by rw [List.length_set], Nat.zero_le _, hheap', by rw [List.length_set]; exact hle, hmx, by simp [hcs], ?_⟩⟩
          (fun h => by have := h1 h; simp at this) (fun _ h => by cases h) (fun k x hx => ?_) (fun k x j c' hx hc => ?_)
        · rw [List.length_set, Array.toList_setIfInBounds, List.take_set, htk]
        · rw [List.getElem?_set] at hx
          split at hx
          · cases hx
            refine ⟨by show (cs.set o c).length = e; simp [hcl], fun j c' hc' => ?_⟩
            change (cs.set o c)[j]? = some c' at hc'
            rw [List.getElem?_set] at hc'
            split at hc'
            · split at hc'
              · cases hc'; exact hna
              · cases hc'
            · exact hf.2 j c' hc'
          · exact hw k x hx
        · rw [List.getElem?_set] at hx
          split at hx
          · rename_i e1
            subst e1
            cases hx
            change (cs.set o c)[j]? = some c' at hc
            rw [List.getElem?_set] at hc
            split at hc
            · rename_i e2
              subst e2
              have hc : c = c' := by
                split at hc
                · cases hc; rfl
                · cases hc
              subst hc
              refine ⟨a.eval y, by rw [List.getElem?_set_self (by omega)], ?_⟩
              by_cases hsc : c.scal = true
              · exact hvy.scal_any hsc
              · refine hvy.mono fun b' hb' => hG _ _ ?_
                have hsc : c.scal = false := by simpa using hsc
                rw [hsc, Bool.or_false]
                cases fr with
                | false => exact hb'.weak
                | true => exact hb'
            · rename_i e2
              obtain ⟨u, hu, hp⟩ := hr i _ j c' hget hc
              have hjl : j < e := by rw [← hcl]; exact (List.getElem?_eq_some_iff.1 hc).1
              exact ⟨u, by rw [List.getElem?_set_ne (by omega)]; exact hu, hp.mono fun b' hb' => hG _ _ (hcomb _ hb')⟩
          · rename_i e1
            obtain ⟨u, hu, hp⟩ := hr k x j c' hx hc
            have hjl : j < e := by rw [← (hw k x hx).1]; exact (List.getElem?_eq_some_iff.1 hc).1
            have hne : i * e + o ≠ k * e + j := by
              intro h9
              have e2 : (i * e + o) / e = (k * e + j) / e := by rw [h9]
              rw [Nat.mul_comm i e, Nat.mul_comm k e, Nat.mul_add_div (by omega), Nat.mul_add_div (by omega), Nat.div_eq_of_lt hjl, Nat.div_eq_of_lt ho] at e2
              omega
            exact ⟨u, by rw [List.getElem?_set_ne hne]; exact hu, hp.mono fun b' hb' => hG _ _ (hcomb _ hb')⟩
end
end Go.Vl


/- The facts on the types of this translation that the rules ask for. -/
namespace Go.Vl
set_option linter.unusedVariables false
set_option linter.unusedSimpArgs false
open Go.Proofs
noncomputable def ti3 : TypeInfo := (Try.prog.info? 3).getD default
theorem inf3 : Try.prog.info? 3 = some ti3 := by kernel_rfl
theorem sz3 : ti3.size = 1 := by kernel_rfl
theorem by3 : ti3.bytes = 8 := by kernel_rfl
noncomputable def ti4 : TypeInfo := (Try.prog.info? 4).getD default
theorem inf4 : Try.prog.info? 4 = some ti4 := by kernel_rfl
theorem sz4 : ti4.size = 1 := by kernel_rfl
noncomputable def ti5 : TypeInfo := (Try.prog.info? 5).getD default
theorem inf5 : Try.prog.info? 5 = some ti5 := by kernel_rfl
theorem sz5 : ti5.size = 1 := by kernel_rfl
theorem by5 : ti5.bytes = 1 := by kernel_rfl
noncomputable def ti22 : TypeInfo := (Try.prog.info? 22).getD default
theorem inf22 : Try.prog.info? 22 = some ti22 := by kernel_rfl
theorem sz22 : ti22.size = 1 := by kernel_rfl
noncomputable def ti32 : TypeInfo := (Try.prog.info? 32).getD default
theorem inf32 : Try.prog.info? 32 = some ti32 := by kernel_rfl
theorem sz32 : ti32.size = 1 := by kernel_rfl
noncomputable def ti37 : TypeInfo := (Try.prog.info? 37).getD default
theorem inf37 : Try.prog.info? 37 = some ti37 := by kernel_rfl
theorem sz37 : ti37.size = 2 := by kernel_rfl
theorem by37 : ti37.bytes = 16 := by kernel_rfl
noncomputable def ti38 : TypeInfo := (Try.prog.info? 38).getD default
noncomputable def ti46 : TypeInfo := (Try.prog.info? 46).getD default
theorem inf46 : Try.prog.info? 46 = some ti46 := by kernel_rfl
theorem sz46 : ti46.size = 4 := by kernel_rfl
theorem by46 : ti46.bytes = 32 := by kernel_rfl
noncomputable def ti50 : TypeInfo := (Try.prog.info? 50).getD default
noncomputable def ti51 : TypeInfo := (Try.prog.info? 51).getD default
noncomputable def ti53 : TypeInfo := (Try.prog.info? 53).getD default
noncomputable def ti56 : TypeInfo := (Try.prog.info? 56).getD default
noncomputable def ti58 : TypeInfo := (Try.prog.info? 58).getD default
noncomputable def ti70 : TypeInfo := (Try.prog.info? 70).getD default
theorem inf70 : Try.prog.info? 70 = some ti70 := by kernel_rfl
theorem sz70 : ti70.size = 4 := by kernel_rfl
noncomputable def ti72 : TypeInfo := (Try.prog.info? 72).getD default
noncomputable def ti86 : TypeInfo := (Try.prog.info? 86).getD default
noncomputable def ti93 : TypeInfo := (Try.prog.info? 93).getD default
theorem inf93 : Try.prog.info? 93 = some ti93 := by kernel_rfl
theorem sz93 : ti93.size = 1 := by kernel_rfl
noncomputable def ti95 : TypeInfo := (Try.prog.info? 95).getD default
noncomputable def ti113 : TypeInfo := (Try.prog.info? 113).getD default
noncomputable def ti122 : TypeInfo := (Try.prog.info? 122).getD default
theorem E22 : ElInfo Try.prog 22 5 1 1 (.int .u8 0) :=
  ⟨Try.underlying22, ⟨ti5, (.int .u8 0), inf5, sz5, by5, by kernel_rfl, by kernel_rfl, fun _ _ => .int _ _⟩, fits_of rfl, by decide⟩
theorem E50 : ElInfo Try.prog 50 3 1 8 (.int .i64 0) :=
  ⟨Try.underlying50, ⟨ti3, (.int .i64 0), inf3, sz3, by3, by kernel_rfl, by kernel_rfl, fun _ _ => .int _ _⟩, fits_of rfl, by decide⟩
theorem Z37 : StZ Try.prog 37 [(.int .i64 0), (.int .i64 0)] := by
  refine ⟨⟨_, Try.underlying37⟩, ti37, #[(.int .i64 0), (.int .i64 0)], inf37, sz37, by kernel_rfl, fun w G => .agg _ _ rfl ?_ ?_⟩
  · intro j c h
    match j, h with
    | 0, h => cases h; rfl
    | 1, h => cases h; rfl
  · intro j c u h hu
    match j, h, hu with
    | 0, h, hu => cases h; cases hu; exact .int _ _
    | 1, h, hu => cases h; cases hu; exact .int _ _
theorem E32 : ElInfo Try.prog 32 37 2 16 (.agg [(.int .i64 0), (.int .i64 0)]) := .of_struct Try.underlying32 Z37 (fun i h => by rw [inf37] at h; rw [← Option.some.inj h]; exact by37) (List.cons_ne_nil _ _)
theorem S37 : StInfo Try.prog 37 [(0, 1), (1, 1)] [(.int .i64 0), (.int .i64 0)] := by
  refine ⟨⟨_, Try.underlying37⟩, #[(.int .i64 0), (.int .i64 0)], fun l => by kernel_rfl, fun w G => .agg _ _ rfl ?_ ?_⟩
  · intro j c h
    match j, h with
    | 0, h => cases h; rfl
    | 1, h => cases h; rfl
  · intro j c u h hu
    match j, h, hu with
    | 0, h, hu => cases h; cases hu; exact .int _ _
    | 1, h, hu => cases h; cases hu; exact .int _ _
theorem Z46 : StZ Try.prog 46 [(.int .i64 0), (.int .i64 0), (.int .i64 0), (.bool false)] := by
  refine ⟨⟨_, Try.underlying46⟩, ti46, #[(.int .i64 0), (.int .i64 0), (.int .i64 0), (.bool false)], inf46, sz46, by kernel_rfl, fun w G => .agg _ _ rfl ?_ ?_⟩
  · intro j c h
    match j, h with
    | 0, h => cases h; rfl
    | 1, h => cases h; rfl
    | 2, h => cases h; rfl
    | 3, h => cases h; rfl
  · intro j c u h hu
    match j, h, hu with
    | 0, h, hu => cases h; cases hu; exact .int _ _
    | 1, h, hu => cases h; cases hu; exact .int _ _
    | 2, h, hu => cases h; cases hu; exact .int _ _
    | 3, h, hu => cases h; cases hu; exact .bool _
theorem E23 : ElInfo Try.prog 23 46 4 32 (.agg [(.int .i64 0), (.int .i64 0), (.int .i64 0), (.bool false)]) := .of_struct Try.underlying23 Z46 (fun i h => by rw [inf46] at h; rw [← Option.some.inj h]; exact by46) (List.cons_ne_nil _ _)
theorem S46 : StInfo Try.prog 46 [(0, 1), (1, 1), (2, 1), (3, 1)] [(.int .i64 0), (.int .i64 0), (.int .i64 0), (.bool false)] := by
  refine ⟨⟨_, Try.underlying46⟩, #[(.int .i64 0), (.int .i64 0), (.int .i64 0), (.bool false)], fun l => by kernel_rfl, fun w G => .agg _ _ rfl ?_ ?_⟩
  · intro j c h
    match j, h with
    | 0, h => cases h; rfl
    | 1, h => cases h; rfl
    | 2, h => cases h; rfl
    | 3, h => cases h; rfl
  · intro j c u h hu
    match j, h, hu with
    | 0, h, hu => cases h; cases hu; exact .int _ _
    | 1, h, hu => cases h; cases hu; exact .int _ _
    | 2, h, hu => cases h; cases hu; exact .int _ _
    | 3, h, hu => cases h; cases hu; exact .bool _
theorem S95 : StInfo Try.prog 95 [(0, 4), (4, 1), (5, 1)] [(.bool false), (.sl none 1 []), (.sl none 1 []), (.sl none 2 []), (.sl none 1 []), (.gone)] := by
  refine ⟨⟨_, Try.underlying95⟩, #[(.bool false), (.slice none 0 0), (.slice none 0 0), (.slice none 0 0), (.slice none 0 0), (.map none)], fun l => by kernel_rfl, fun w G => .agg _ _ rfl ?_ ?_⟩
  · intro j c h
    match j, h with
    | 0, h => cases h; rfl
    | 1, h => cases h; rfl
    | 2, h => cases h; rfl
    | 3, h => cases h; rfl
    | 4, h => cases h; rfl
    | 5, h => cases h; rfl
  · intro j c u h hu
    match j, h, hu with
    | 0, h, hu => cases h; cases hu; exact .bool _
    | 1, h, hu => cases h; cases hu; exact .nilsl _ _ (by decide)
    | 2, h, hu => cases h; cases hu; exact .nilsl _ _ (by decide)
    | 3, h, hu => cases h; cases hu; exact .nilsl _ _ (by decide)
    | 4, h, hu => cases h; cases hu; exact .nilsl _ _ (by decide)
    | 5, h, hu => cases h; cases hu; exact .gone _ rfl
theorem S113 : StInfo Try.prog 113 [(0, 1), (1, 1)] [(.sl none 1 []), (.int .i64 0)] := by
  refine ⟨⟨_, Try.underlying113⟩, #[(.slice none 0 0), (.int .i64 0)], fun l => by kernel_rfl, fun w G => .agg _ _ rfl ?_ ?_⟩
  · intro j c h
    match j, h with
    | 0, h => cases h; rfl
    | 1, h => cases h; rfl
  · intro j c u h hu
    match j, h, hu with
    | 0, h, hu => cases h; cases hu; exact .nilsl _ _ (by decide)
    | 1, h, hu => cases h; cases hu; exact .int _ _
end Go.Vl


namespace Go.Vl
set_option linter.unusedVariables false
set_option linter.unusedSimpArgs false
open Go.Proofs
def findM (n : Int) : List Int → Int → Int
  | [], _ => -1
  | x :: xs, i => if x = n then i else findM n xs (i+1)

theorem findM_drop (n : Int) (l : List Int) (k : Nat) (h : k < l.length) : findM n (l.drop k) k = if l.getD k 0 = n then (k : Int) else findM n (l.drop (k+1)) (k+1) := by
  rw [List.drop_eq_getElem_cons h]
  simp [findM, List.getD, List.getElem?_eq_getElem h]

theorem findM_mem (n : Int) : ∀ (l : List Int) (k : Int), 0 ≤ k → (0 ≤ findM n l k ↔ n ∈ l)
  | [], k, _ => by simp [findM]
  | x :: xs, k, h => by
    by_cases hx : x = n
    · simp [findM, hx, h]
    · have := findM_mem n xs (k+1) (by omega)
      simp [findM, hx, Ne.symm hx, this]

theorem findM_not (n : Int) (l : List Int) (k : Int) (h : 0 ≤ k) : findM n l k < 0 ↔ n ∉ l := by
  rw [← findM_mem n l k h]; omega

theorem all_take_succ {α : Type} {p : α → Prop} {l : List α} {k : Nat} (h : k < l.length) (d : α) : (∀ x ∈ l.take (k+1), p x) ↔ (∀ x ∈ l.take k, p x) ∧ p (l.getD k d) := by
  rw [List.take_succ_eq_append_getElem h]
  simp only [List.mem_append, List.mem_singleton, or_imp, forall_and, forall_eq, List.getD, List.getElem?_eq_getElem h, Option.getD_some]

theorem getD_mem {α : Type} {l : List α} {k : Nat} (h : k < l.length) (d : α) : l.getD k d ∈ l := by
  simp [List.getD, List.getElem?_eq_getElem h]

theorem take_all {α : Type} {l : List α} {k : Nat} (h : l.length ≤ k) : l.take k = l := List.take_of_length_le h
theorem bT {P : Prop} [Decidable P] (h : P) : true = decide P := (decide_eq_true h).symm
theorem bF {P : Prop} [Decidable P] (h : ¬ P) : false = decide P := (decide_eq_false h).symm
/-- What can be the bases of a class. -/
def CB (l : List Int) (c : Int) : Prop := l ≠ [] ∧ l.length ≤ 4 ∧ l.Nodup ∧ ∀ x ∈ l, 0 ≤ x ∧ x ≤ c - 1
instance {l : List Int} {c : Int} : Decidable (CB l c) := by unfold CB; infer_instance
/-- Bases that are valid. -/
def VB (b : List (List Int)) : Prop := 1 ≤ b.length ∧ b.length ≤ 12 ∧ b.getD 0 [] = [] ∧ ∀ i, i < b.length → 0 < i → CB (b.getD i []) i
instance {b : List (List Int)} : Decidable (VB b) := by unfold VB; infer_instance
def RB0 (l : List Int) (i : Nat) : Prop := (l.length = 0 ↔ i = 0) ∧ l.length ≤ 4 ∧ l.Nodup ∧ ∀ x ∈ l, 0 ≤ x ∧ x ≤ (i : Int) - 1
/-- Lists that can be merged or kept. -/
def OKL (l : List Int) (m : Int) : Prop := (l.length : Int) ≤ m ∧ l.Nodup
instance {l : List Int} {c : Int} : Decidable (OKL l c) := by unfold OKL; infer_instance
/-- Slots that are valid. -/
def VS (b s : List (List Int)) : Prop := VB b ∧ s.length = b.length ∧ s.getD 0 [] = [] ∧ ∀ l ∈ s, OKL l 4 ∧ ∀ x ∈ l, 0 ≤ x ∧ x ≤ 9
instance {b s : List (List Int)} : Decidable (VS b s) := by unfold VS; infer_instance

theorem inRange_sat {n : Int} {low : Int} {high : Int}   : SatAt Try.prog 69 [i64 n, i64 low, i64 high] [] (fun res rows => res = [bo (decide (low ≤ n ∧ n ≤ high))] ∧ rows = []) := by
  refine sat_entry (ts := [6]) Try.func69 rfl rfl (by decide) (Nat.le_of_ble_eq_true rfl) fun C hC => ?_
  rw [Try.ntmps69]
  replace hC : C.nb = 0 := hC
  refine vc_seq fun K1 hK1 => ?_
  refine vc_region ?_
  refine vo_assign_pv rfl rfl ?_
  refine vo_nil ?_
  refine hK1 _ ?_
  refine vc_seq fun K2 hK2 => ?_
  refine vc_region ?_
  refine vo_move_pv rfl rfl ?_
  refine vo_move_pv rfl rfl ?_
  refine vo_binI rfl rfl rfl rfl trivial ?_
  refine vo_move_pv rfl rfl ?_
  refine vo_split 10 rfl (fun hg1 => ?_) (fun hg1 => ?_)
  · try simp only [decide_eq_true_eq, decide_eq_false_iff_not, beq_iff_eq, bne_iff_ne, beq_eq_false_iff_ne, bne_eq_false_iff_eq, Bool.not_eq_true, Bool.not_eq_false, Bool.not_eq_eq_eq_not, Bool.not_true, Bool.not_false, List.length_map, Int.not_lt, Int.not_le, ne_eq, Decidable.not_not] at hg1
    refine vo_guard_on rfl rfl rfl ?_
    refine vo_move_pv rfl rfl ?_
    refine vo_guard_on rfl rfl rfl ?_
    refine vo_move_pv rfl rfl ?_
    refine vo_guard_on rfl rfl rfl ?_
    refine vo_binI rfl rfl rfl rfl trivial ?_
    refine vo_pick_t rfl rfl ?_
    refine vo_assign_pv rfl rfl ?_
    refine vo_nil ?_
    refine hK2 _ ?_
    refine vc_ret ?_
    change retPv _ _ _ _ _
    refine retPv_mk rfl rfl rfl ⟨?_, rfl⟩
    refine (congrArg (fun b => [bo b]) (?_ : _ = _) : [bo _] = [bo _])
    simp_all <;> omega
  · try simp only [decide_eq_true_eq, decide_eq_false_iff_not, beq_iff_eq, bne_iff_ne, beq_eq_false_iff_ne, bne_eq_false_iff_eq, Bool.not_eq_true, Bool.not_eq_false, Bool.not_eq_eq_eq_not, Bool.not_true, Bool.not_false, List.length_map, Int.not_lt, Int.not_le, ne_eq, Decidable.not_not] at hg1
    refine vo_guard_off rfl rfl rfl rfl rfl ?_
    refine vo_guard_off rfl rfl rfl rfl rfl ?_
    refine vo_guard_off rfl rfl rfl rfl rfl ?_
    refine vo_pick_f rfl rfl ?_
    refine vo_assign_pv rfl rfl ?_
    refine vo_nil ?_
    refine hK2 _ ?_
    refine vc_ret ?_
    change retPv _ _ _ _ _
    refine retPv_mk rfl rfl rfl ⟨?_, rfl⟩
    refine (congrArg (fun b => [bo b]) (?_ : _ = _) : [bo _] = [bo _])
    simp_all <;> omega


theorem isUpTo_sat {n : Int} {most : Int}   : SatAt Try.prog 91 [i64 n, i64 most] [] (fun res rows => res = [bo (decide (0 ≤ n ∧ n ≤ most))] ∧ rows = []) := by
  refine sat_entry (ts := [4]) Try.func91 rfl rfl (by decide) (Nat.le_of_ble_eq_true rfl) fun C hC => ?_
  rw [Try.ntmps91]
  replace hC : C.nb = 0 := hC
  refine vc_seq fun K1 hK1 => ?_
  refine vc_region ?_
  refine vo_assign_pv rfl rfl ?_
  refine vo_nil ?_
  refine hK1 _ ?_
  refine vc_seq fun K2 hK2 => ?_
  refine vc_region ?_
  refine vo_move_pv rfl rfl ?_
  refine vo_binI rfl rfl rfl rfl trivial ?_
  refine vo_move_pv rfl rfl ?_
  refine vo_split 7 rfl (fun hg1 => ?_) (fun hg1 => ?_)
  · try simp only [decide_eq_true_eq, decide_eq_false_iff_not, beq_iff_eq, bne_iff_ne, beq_eq_false_iff_ne, bne_eq_false_iff_eq, Bool.not_eq_true, Bool.not_eq_false, Bool.not_eq_eq_eq_not, Bool.not_true, Bool.not_false, List.length_map, Int.not_lt, Int.not_le, ne_eq, Decidable.not_not] at hg1
    refine vo_guard_on rfl rfl rfl ?_
    refine vo_move_pv rfl rfl ?_
    refine vo_guard_on rfl rfl rfl ?_
    refine vo_move_pv rfl rfl ?_
    refine vo_guard_on rfl rfl rfl ?_
    refine vo_binI rfl rfl rfl rfl trivial ?_
    refine vo_pick_t rfl rfl ?_
    refine vo_assign_pv rfl rfl ?_
    refine vo_nil ?_
    refine hK2 _ ?_
    refine vc_ret ?_
    change retPv _ _ _ _ _
    refine retPv_mk rfl rfl rfl ⟨?_, rfl⟩
    refine (congrArg (fun b => [bo b]) (?_ : _ = _) : [bo _] = [bo _])
    simp_all <;> omega
  · try simp only [decide_eq_true_eq, decide_eq_false_iff_not, beq_iff_eq, bne_iff_ne, beq_eq_false_iff_ne, bne_eq_false_iff_eq, Bool.not_eq_true, Bool.not_eq_false, Bool.not_eq_eq_eq_not, Bool.not_true, Bool.not_false, List.length_map, Int.not_lt, Int.not_le, ne_eq, Decidable.not_not] at hg1
    refine vo_guard_off rfl rfl rfl rfl rfl ?_
    refine vo_guard_off rfl rfl rfl rfl rfl ?_
    refine vo_guard_off rfl rfl rfl rfl rfl ?_
    refine vo_pick_f rfl rfl ?_
    refine vo_assign_pv rfl rfl ?_
    refine vo_nil ?_
    refine hK2 _ ?_
    refine vc_ret ?_
    change retPv _ _ _ _ _
    refine retPv_mk rfl rfl rfl ⟨?_, rfl⟩
    refine (congrArg (fun b => [bo b]) (?_ : _ = _) : [bo _] = [bo _])
    simp_all <;> omega


end Go.Vl


namespace Go.Vl
set_option linter.unusedVariables false
set_option linter.unusedSimpArgs false
open Go.Proofs

/-- The classes above a class; none where there is no such class. -/
def abvR (b : List (List Int)) (c : Int) : List Int := if VB b ∧ 0 ≤ c ∧ c < b.length then abvL b c.toNat else []
end Go.Vl


namespace Go.Vl
set_option linter.unusedVariables false
set_option linter.unusedSimpArgs false
open Go.Proofs

end Go.Vl


namespace Go.Vl
set_option linter.unusedVariables false
set_option linter.unusedSimpArgs false
open Go.Proofs

def belR (b : List (List Int)) (c : Int) : List Int := if VB b ∧ 0 ≤ c ∧ c < b.length then belL b c.toNat else []
def OKLs (ls : List (List Int)) : Prop := (∀ l ∈ ls, OKL l 12) ∧ ls.length ≤ 6
instance {ls : List (List Int)} : Decidable (OKLs ls) := by unfold OKLs; infer_instance
def KeepP (long short : List Int) : Prop := OKL long 12 ∧ OKL short 12 ∧ kpN short long 0 = short.length
instance {a b : List Int} : Decidable (KeepP a b) := by unfold KeepP; infer_instance
def OC (b s : List (List Int)) : Prop := VS b s ∧ ∀ j, j < s.length → ∀ i, i < j → (s.getD i []).length > 0 → (s.getD j []).length > 0 → (i : Int) ∈ abvL b j
noncomputable instance {a b : List (List Int)} : Decidable (OC a b) := Classical.propDecidable _
end Go.Vl


namespace Go.Vl
set_option linter.unusedVariables false
set_option linter.unusedSimpArgs false
open Go.Proofs

theorem VB.take {b : List (List Int)} {k : Nat} (h : VB b) (h1 : 1 ≤ k) (h2 : k ≤ b.length) : VB (b.take k) := by
  obtain ⟨a1, a2, a3, a4⟩ := h
  have e : ∀ i, i < k → (b.take k).getD i [] = b.getD i [] := fun i hi => by simp [List.getD, List.getElem?_take, hi]
  have l : (b.take k).length = k := by rw [List.length_take]; omega
  exact ⟨by omega, by omega, by rw [e 0 (by omega)]; exact a3, fun i hi h0 => by rw [e i (by omega)]; exact a4 i (by omega) h0⟩
end Go.Vl


/- From a function's contract to the row of a law over bytes. -/
namespace Go.Vl
set_option linter.unusedVariables false
set_option linter.unusedSimpArgs false
open Go.RowKit Go.WideShapes

theorem okWide_spot {P : Program} {W : World} {base : Nat} {t e : TypeId} {a : Addr} {len cap : Nat} (hT : P.underlying t = some (.slice e)) (h : Value.okWide P W .any base t (.slice (some a) len cap)) :
    a.spot = none ∧ a.block < W.heap.size := by
  simp only [Value.okWide, hT, Cell.okWide, Cell.ok, World.has] at h
  obtain ⟨_, _, _, h1, row, cells, h2, _⟩ := h
  refine ⟨h1, ?_⟩
  unfold World.shape? at h2
  rcases Nat.lt_or_ge a.block W.heap.size with h3 | h3
  · exact h3
  · rw [Array.getElem?_eq_none h3] at h2; cases h2

/-- What is known of bytes that come in. -/
def BytesAt (w : World) (a0 : Option Addr) (len cap : Nat) : Prop :=
  (a0 = none ∧ len = 0 ∧ cap = 0) ∨ ∃ (x : Addr) (zs : List Int), a0 = some x ∧ x.spot = none ∧ x.block < w.heap.size ∧ len ≤ cap ∧ zs.length = cap ∧
    (∀ i, i < zs.length → w.cell? (x.add i) = some (.int .u8 (zs.getD i 0))) ∧ ∀ n ∈ zs, (Lit.int .u8 n).wf = true

theorem bytes_pv {w : World} {a0 : Option Addr} {len cap : Nat} {G : Nat → Prop} (hG : ∀ b, b < w.heap.size → G b) (h : BytesAt w a0 len cap) :
    ∃ (nl : Option Bool) (c : List (Fin 256)), RP w G (.sl nl 1 (c.map byteP)) (.slice a0 len cap) := by
  rcases h with ⟨rfl, rfl, rfl⟩ | ⟨x, zs, rfl, hs, hb, hl, hz, hc, hw⟩
  · exact ⟨none, [], .nilsl _ _ (by simp)⟩
  · have hbd : ∀ i, i < zs.length → 0 ≤ zs.getD i 0 ∧ zs.getD i 0 < 256 := by
      intro i hi
      have hm : zs.getD i 0 ∈ zs := by simp [List.getD, List.getElem?_eq_getElem hi]
      have := hw _ hm
      generalize zs.getD i 0 = n at this ⊢
      simp [Lit.wf, IntKind.min, IntKind.max, IntKind.bits, IntKind.signed] at this
      omega
    let c : List (Fin 256) := (List.range len).map fun i => ⟨(zs.getD i 0).toNat % 256, Nat.mod_lt _ (by omega)⟩
    refine ⟨none, c, .sl none 1 _ x len cap (fun i _ => .int .u8 (zs.getD i 0)) (by simp) (fun _ => hs) (by simp [c]) hl (fun _ => hG _ hb) ?_ ?_ ?_⟩
    · intro i y hy
      simp only [List.getElem?_map] at hy
      cases hci : c[i]? with
      | none => rw [hci] at hy; simp at hy
      | some z =>
        rw [hci] at hy
        simp only [Option.map_some, Option.some.injEq] at hy
        subst hy
        exact fits_of rfl
    · intro i y j d hy hd
      simp only [List.getElem?_map] at hy
      cases hci : c[i]? with
      | none => rw [hci] at hy; simp at hy
      | some z =>
        rw [hci] at hy
        simp only [Option.map_some, Option.some.injEq] at hy
        subst hy
        have hi : i < len := by
          rcases Nat.lt_or_ge i len with h1 | h1
          · exact h1
          · have : c[i]? = none := List.getElem?_eq_none (by simp [c]; exact h1)
            rw [this] at hci; cases hci
        have hj : j = 0 := by
          cases j with
          | zero => rfl
          | succ j => simp [PV.cells] at hd
        subst hj
        have := hc i (by omega)
        rw [← this]
        congr 1
        obtain ⟨xb, xo, xs⟩ := x
        simp only at hs
        subst hs
        simp [Addr.add]
    · intro i y j d hy hd
      simp only [List.getElem?_map] at hy
      cases hci : c[i]? with
      | none => rw [hci] at hy; simp at hy
      | some z =>
        rw [hci] at hy
        simp only [Option.map_some, Option.some.injEq] at hy
        subst hy
        have hi : i < len := by
          rcases Nat.lt_or_ge i len with h1 | h1
          · exact h1
          · have : c[i]? = none := List.getElem?_eq_none (by simp [c]; exact h1)
            rw [this] at hci; cases hci
        have hj : j = 0 := by
          cases j with
          | zero => rfl
          | succ j => simp [PV.cells] at hd
        subst hj
        have hd2 : d = byteP z := by simpa [PV.cells] using hd.symm
        subst hd2
        have hz2 : ((z.val : Nat) : Int) = zs.getD i 0 := by
          have e : c[i]? = some ⟨(zs.getD i 0).toNat % 256, Nat.mod_lt _ (by omega)⟩ := by simp [c, hi]
          rw [e] at hci
          simp only [Option.some.injEq] at hci
          have hb := hbd i (by omega)
          rw [← hci]
          show (((zs.getD i 0).toNat % 256 : Nat) : Int) = _
          omega
        rw [← hz2]
        exact .int _ _

end Go.Vl


/- From a function's contract to the row of a law over lists of numbers, and numbers. -/
namespace Go.Vl
set_option linter.unusedVariables false
set_option linter.unusedSimpArgs false
open Go.RowKit Go.WideShapes Go.ChangeShapes

/-- The setting of a law's call. -/
def C0 (w : World) : Ctx := ⟨w, fun b => b < w.heap.size, 0, fun _ => default⟩
def G0 (w : World) : Bool → Nat → Prop := Gd (C0 w) [] (fun _ => default) w
theorem G0_of {w : World} {b : Nat} (h : b < w.heap.size) : G0 w false b := by
  refine ⟨h, ?_, fun _ => .inl h, fun e => by cases e⟩
  rintro ⟨id, ⟨r, hr, _⟩, _⟩
  simp at hr

theorem law_gen {P : Program} {f : FuncId} {w : World} {args : List SV} {vals : Array Value} (hl : vals.size = args.length)
    (hv : ∀ (j : Nat) (a : SV), args[j]? = some a → RS w (G0 w) (fun _ => default) 0 a (vals.getD j undef))
    (h : SatAt P f args [] (fun res rows => res = [bo true] ∧ rows = [])) :
    Calls P f vals w fun e w' => e = .returned (.bool true) ∧ Below w.heap.size w w' := by
  have hsim : SimM (C0 w) ⟨vals.size, enumE 0 args, []⟩ (fun _ => default) ⟨vals, []⟩ w := {
    defs := rfl
    size := rfl
    os := rfl
    tape := rfl
    output := rfl
    hsz := Nat.le_refl _
    old := fun _ _ _ => rfl
    bor := fun id hid => by cases hid
    nbl := Nat.zero_le _
    newb := fun id b _ ⟨r, hr, _⟩ => by simp at hr
    dist := fun i j b ⟨r, hr, _⟩ => by simp at hr
    rows := fun id r hr => by simp at hr
    env := fun t => by
      show RS _ _ _ _ (look (enumE 0 _) t) _
      rw [look_enumE]
      simp only [Nat.zero_le, if_true, Nat.sub_zero]
      cases ha : args[t]? with
      | none => exact .any _
      | some a => exact hv t a ha }
  refine (h (C0 w) (fun _ => default) vals rfl (fun b hb => hb) hl hsim).mono fun e w' hx => ?_
  obtain ⟨us, res, rows', m', rfl, hus, hs, rfl, rfl⟩ := hx
  have hv := hs.env 0
  have h1 : us.size = 1 := hus
  refine ⟨?_, hs.os, hs.tape, hs.output, hs.hsz, fun k hk => hs.old k hk (fun id hid => by cases hid)⟩
  have hv : RS w' (Gd (C0 w) [] m' w') m' 0 (bo true) (us.getD 0 undef) := hv
  have hb := hv.pv_inv
  unfold pack
  rw [dif_pos h1]
  simp only [Array.getD, h1, Nat.lt_succ_self, dif_pos, Nat.zero_lt_one] at hb
  cases hu : us[0]
  all_goals (simp only [Array.getInternal_eq_getElem, hu] at hb; cases hb)
  rfl

section
variable {H : Type} {enc : TypeId × Value → H} {P : Program} {w : World} {base : Nat} {held : Bool}
end
end Go.Vl


/- Arguments of any type of numbers, truth values, slices and structs, opened by their types. -/
namespace Go.Vl
set_option linter.unusedVariables false
set_option linter.unusedSimpArgs false
open Go.RowKit Go.ChangeShapes Go.WideShapes Go.ChangeAt

/-- A value of the type reads as one of the values that pv tells. -/
def Opens (P : Program) (t : TypeId) (k : Nat) {α : Type} (pv : α → PV) (good : α → Prop) : Prop :=
  ∀ (H : Type) (enc : TypeId × Value → H) (w : World) (base : Nat) (held : Bool) (fuel : Nat) (cs : List Value) (x : DataW H × List MemPlace), DataW.trod enc P w base (fun _ => true) held fuel t cs = some x →
    ∃ a, good a ∧ (pv a).fits k ∧ cs.length = k ∧ ∀ (j : Nat) (c : PV) (v : Value), (pv a).cells[j]? = some c → cs[j]? = some v → RP w (G0 w false) c v

def i64R (n : Int) : Prop := -9223372036854775808 ≤ n ∧ n ≤ 9223372036854775807

/-- A struct, field by field, from a place on. -/
def OpenF (P : Program) (off : Nat) (fs : List Field) (k : Nat) {α : Type} (cells : α → List PV) (good : α → Prop) : Prop :=
  ∀ (H : Type) (enc : TypeId × Value → H) (w : World) (base : Nat) (held : Bool) (fuel : Nat) (cs : List Value),
    (∀ (i : Nat) (f : Field), fs[i]? = some f → ∃ x, DataW.trod enc P w base (fun _ => true) held fuel f.type ((cs.drop f.offset).take (P.cellsOf f.type)) = some x) →
    ∃ a, good a ∧ (cells a).length = k ∧ (∀ c ∈ cells a, c.isAgg = false) ∧ ∀ (j : Nat) (c : PV) (v : Value), (cells a)[j]? = some c → ((cs.drop off).take k)[j]? = some v → RP w (G0 w false) c v

/-- The value of an argument of one cell. -/
theorem Opens.one {P : Program} {t : TypeId} {α : Type} {pv : α → PV} {good : α → Prop} (h : Opens P t 1 pv good) (hna : ∀ a, (pv a).cells = [pv a]) {H : Type} {enc : TypeId × Value → H} {w : World} {base : Nat} {held : Bool} {v : Value} {d : DataW H} {ps : List MemPlace} (hv : v.cells.toList = [v])
    (hd : DataW.Trod enc P w base (fun _ => true) held t v d ps) : ∃ a, good a ∧ RP w (G0 w false) (pv a) v := by
  obtain ⟨fuel, hf⟩ := hd
  rw [hv] at hf
  obtain ⟨a, g1, g2, g3, g4⟩ := h H enc w base held fuel _ _ hf
  exact ⟨a, g1, g4 0 _ _ (by rw [hna]; rfl) rfl⟩

/-- The value of an argument that is a struct. -/
theorem Opens.agg {P : Program} {t k : Nat} {α : Type} {cells : α → List PV} {good : α → Prop} (h : Opens P t k (fun a => .agg (cells a)) good) {H : Type} {enc : TypeId × Value → H} {w : World} {base : Nat} {held : Bool} {cs : Array Value} {d : DataW H} {ps : List MemPlace}
    (hd : DataW.Trod enc P w base (fun _ => true) held t (.agg cs) d ps) : ∃ a, good a ∧ RP w (G0 w false) (.agg (cells a)) (.agg cs) := by
  obtain ⟨fuel, hf⟩ := hd
  obtain ⟨a, g1, g2, g3, g4⟩ := h H enc w base held fuel _ _ hf
  refine ⟨a, g1, .agg _ _ ?_ (fun j c hc => g2.2 j c hc) (fun j c v hc hv => g4 j c v hc ?_)⟩
  · have h1 : (cells a).length = k := g2.1
    have h2 : cs.toList.length = k := g3
    rw [h1, ← h2]; simp
  · show cs.toList[j]? = some v
    simpa using hv
end Go.Vl


namespace Go.Vl
set_option linter.unusedVariables false
set_option linter.unusedSimpArgs false
open Go.Proofs

structure OpM where
  who : Int
  name : Int
  value : Int
  gone : Bool
  deriving Inhabited, DecidableEq
abbrev opP (o : OpM) : PV := .agg [.int .i64 o.who, .int .i64 o.name, .int .i64 o.value, .bool o.gone]
abbrev pairP (p : Int × Int) : PV := .agg [.int .i64 p.1, .int .i64 p.2]
structure InstM where
  shares : Bool
  order : List Int
  values : List Int
  own : List (Int × Int)
  deriving Inhabited, DecidableEq
abbrev instP (x : InstM) : PV := .agg [.bool x.shares, .sl none 1 (x.order.map intP), .sl none 1 (x.values.map intP), .sl none 2 (x.own.map pairP)]
structure HeapM where
  keys : List Int
  insts : List InstM
  deriving Inhabited, DecidableEq
abbrev heapP (h : HeapM) : PV := .agg [.sl none 1 (h.keys.map intP), .sl none 4 (h.insts.map instP)]
theorem getD_map0 {α β : Type} (f : α → β) (l : List α) (k : Nat) (d : α) (d' : β) (h : f d = d') : (l.map f).getD k d' = f (l.getD k d) := by
  subst h
  simp only [List.getD, List.getElem?_map]
  cases l[k]? <;> rfl
theorem getD_ops (l : List OpM) (k : Nat) : (l.map opP).getD k (.agg [.int .i64 0, .int .i64 0, .int .i64 0, .bool false]) = opP (l.getD k ⟨0, 0, 0, false⟩) := getD_map0 opP l k ⟨0, 0, 0, false⟩ _ rfl
theorem getD_pairs (l : List (Int × Int)) (k : Nat) : (l.map pairP).getD k (.agg [.int .i64 0, .int .i64 0]) = pairP (l.getD k (0, 0)) := getD_map0 pairP l k (0, 0) _ rfl
theorem getD_insts (l : List InstM) (k : Nat) : (l.map instP).getD k (.agg [.bool false, .sl none 1 [], .sl none 1 [], .sl none 2 []]) = instP (l.getD k ⟨false, [], [], []⟩) := getD_map0 instP l k ⟨false, [], [], []⟩ _ rfl
theorem set_pairs (l : List (Int × Int)) (i : Nat) (x : Int × Int) : (l.map pairP).set i (pairP x) = (l.set i x).map pairP := by simp [List.map_set]
theorem set_pair1 (l : List (Int × Int)) (i : Nat) (a b : Int) : (l.map pairP).set i (.agg [.int .i64 a, .int .i64 b]) = (l.set i (a, b)).map pairP := set_pairs l i (a, b)
theorem app_pairs (l : List (Int × Int)) (a b : Int) : l.map pairP ++ [.agg [.int .i64 a, .int .i64 b]] = (l ++ [(a, b)]).map pairP := by simp
/-- A copy that is under way. -/
def cpy {α : Type} (d : α) (l : List α) (k : Nat) : List α := l.take k ++ List.replicate (l.length - k) d
theorem take_eqS {α : Type} {a b : List α} {k : Nat} (d : α) (h : k < a.length) (hb : k < b.length) : a.take (k+1) = b.take (k+1) ↔ a.take k = b.take k ∧ a.getD k d = b.getD k d := by
  have ha : a.take (k+1) = a.take k ++ [a.getD k d] := by rw [List.take_add_one, List.getD, List.getElem?_eq_getElem h]; rfl
  have hbb : b.take (k+1) = b.take k ++ [b.getD k d] := by rw [List.take_add_one, List.getD, List.getElem?_eq_getElem hb]; rfl
  rw [ha, hbb]
  constructor
  · intro he
    have := List.append_inj he (by simp; omega)
    exact ⟨this.1, by simpa using this.2⟩
  · rintro ⟨h1, h2⟩; rw [h1, h2]
def okOp (o : OpM) : Prop := (0 ≤ o.who ∧ o.who ≤ 3) ∧ (0 ≤ o.name ∧ o.name ≤ 9) ∧ (0 ≤ o.value ∧ o.value ≤ 99)
instance (o : OpM) : Decidable (okOp o) := by unfold okOp; exact inferInstance
def VOps (l : List OpM) : Prop := l.length ≤ 40 ∧ ∀ o ∈ l, okOp o
instance (l : List OpM) : Decidable (VOps l) := by unfold VOps; exact inferInstance

theorem isWho_sat {who : Int}   : SatAt Try.prog 66 [i64 who] [] (fun res rows => res = [bo (decide (0 ≤ who ∧ who ≤ 3))] ∧ rows = []) := by
  refine sat_entry_G (rs := [(2, none)]) Try.func66 rfl rfl (Nat.le_of_ble_eq_true rfl) (Nat.le_of_ble_eq_true rfl) (resTs1 trivial) fun C hC => ?_
  rw [Try.ntmps66]
  replace hC : C.nb = 0 := hC
  refine vc_seq fun K1 hK1 => ?_
  refine vc_region ?_
  refine vo_assign_pv rfl rfl ?_
  refine vo_nil ?_
  refine hK1 _ ?_
  refine vc_seq fun K2 hK2 => ?_
  refine vc_region ?_
  refine vo_move_pv rfl rfl ?_
  refine vo_call0 Try.func91 rfl rfl rfl rfl isUpTo_sat ?_
  rintro _ _ ⟨rfl, rfl⟩
  refine ⟨rfl, rfl, .inl rfl, ?_⟩
  refine vo_stM ?_
  refine vo_assign_pv rfl rfl ?_
  refine vo_nil ?_
  refine hK2 _ ?_
  refine vc_ret ?_
  change retQ _ _ _ _ _
  refine retQ_sel [] (srows := []) (.inr rfl) hC rfl rfl rfl rfl rfl rfl rfl ?_
  refine ⟨?_, rfl⟩
  refine (congrArg (fun b => [bo b]) (?_ : _ = _) : [bo _] = [bo _])
  rfl


theorem isOp_sat {o : OpM}   : SatAt Try.prog 54 [.pv false (opP o)] [] (fun res rows => res = [bo (decide (okOp o))] ∧ rows = []) := by
  refine sat_entry_G (rs := [(2, none)]) Try.func54 rfl rfl (Nat.le_of_ble_eq_true rfl) (Nat.le_of_ble_eq_true rfl) (resTs1 trivial) fun C hC => ?_
  rw [Try.ntmps54]
  replace hC : C.nb = 0 := hC
  refine vc_seq fun K1 hK1 => ?_
  refine vc_region ?_
  refine vo_box rfl rfl ?_
  refine vo_stM ?_
  refine vo_assign_pv rfl rfl ?_
  refine vo_nil ?_
  refine hK1 _ ?_
  refine vc_seq fun K2 hK2 => ?_
  refine vc_region ?_
  refine vo_fieldAddr_ptr rfl rfl Try.underlying46 rfl inf3 (by rw [sz3]; decide) ?_
  try simp only [Nat.zero_add]
  refine vo_load_var rfl rfl rfl Try.underlying3 rfl rfl ?_
  refine vo_call0 Try.func66 rfl rfl rfl rfl isWho_sat ?_
  rintro _ _ ⟨rfl, rfl⟩
  refine ⟨rfl, rfl, .inl rfl, ?_⟩
  refine vo_stM ?_
  refine vo_move_pv rfl rfl ?_
  refine vo_split 6 rfl (fun hg1 => ?_) (fun hg1 => ?_)
  · try simp only [decide_eq_true_eq, decide_eq_false_iff_not, beq_iff_eq, bne_iff_ne, beq_eq_false_iff_ne, bne_eq_false_iff_eq, Bool.not_eq_true, Bool.not_eq_false, Bool.not_eq_eq_eq_not, Bool.not_true, Bool.not_false, List.length_map, Int.not_lt, Int.not_le, ne_eq, Decidable.not_not] at hg1
    refine vo_guard_on rfl rfl rfl ?_
    refine vo_fieldAddr_ptr rfl rfl Try.underlying46 rfl inf3 (by rw [sz3]; decide) ?_
    try simp only [Nat.zero_add]
    refine vo_guard_on rfl rfl rfl ?_
    refine vo_load_var rfl rfl rfl Try.underlying3 rfl rfl ?_
    refine vo_guard_on rfl rfl rfl ?_
    refine vo_call0 Try.func91 rfl rfl rfl rfl isUpTo_sat ?_
    rintro _ _ ⟨rfl, rfl⟩
    refine ⟨rfl, rfl, .inl rfl, ?_⟩
    refine vo_stM ?_
    refine vo_pick_t rfl rfl ?_
    refine vo_move_pv rfl rfl ?_
    refine vo_split 11 rfl (fun hg2 => ?_) (fun hg2 => ?_)
    · try simp only [decide_eq_true_eq, decide_eq_false_iff_not, beq_iff_eq, bne_iff_ne, beq_eq_false_iff_ne, bne_eq_false_iff_eq, Bool.not_eq_true, Bool.not_eq_false, Bool.not_eq_eq_eq_not, Bool.not_true, Bool.not_false, List.length_map, Int.not_lt, Int.not_le, ne_eq, Decidable.not_not] at hg2
      refine vo_guard_on rfl rfl rfl ?_
      refine vo_fieldAddr_ptr rfl rfl Try.underlying46 rfl inf3 (by rw [sz3]; decide) ?_
      try simp only [Nat.zero_add]
      refine vo_guard_on rfl rfl rfl ?_
      refine vo_load_var rfl rfl rfl Try.underlying3 rfl rfl ?_
      refine vo_guard_on rfl rfl rfl ?_
      refine vo_call0 Try.func91 rfl rfl rfl rfl isUpTo_sat ?_
      rintro _ _ ⟨rfl, rfl⟩
      refine ⟨rfl, rfl, .inl rfl, ?_⟩
      refine vo_stM ?_
      refine vo_pick_t rfl rfl ?_
      refine vo_assign_pv rfl rfl ?_
      refine vo_nil ?_
      refine hK2 _ ?_
      refine vc_ret ?_
      change retQ _ _ _ _ _
      refine retQ_sel [] (srows := []) (.inr rfl) hC rfl rfl rfl rfl rfl rfl rfl ?_
      refine ⟨?_, rfl⟩
      refine (congrArg (fun b => [bo b]) (?_ : _ = _) : [bo _] = [bo _])
      unfold okOp; first | omega | (exact bT (by omega)) | (exact bF (by omega)) | (exact decide_eq_decide.2 (by omega))
    · try simp only [decide_eq_true_eq, decide_eq_false_iff_not, beq_iff_eq, bne_iff_ne, beq_eq_false_iff_ne, bne_eq_false_iff_eq, Bool.not_eq_true, Bool.not_eq_false, Bool.not_eq_eq_eq_not, Bool.not_true, Bool.not_false, List.length_map, Int.not_lt, Int.not_le, ne_eq, Decidable.not_not] at hg2
      refine vo_guard_off rfl rfl rfl rfl rfl ?_
      refine vo_guard_off rfl rfl rfl rfl rfl ?_
      refine vo_guard_off rfl rfl rfl rfl rfl ?_
      refine vo_pick_f rfl rfl ?_
      refine vo_assign_pv rfl rfl ?_
      refine vo_nil ?_
      refine hK2 _ ?_
      refine vc_ret ?_
      change retQ _ _ _ _ _
      refine retQ_sel [] (srows := []) (.inr rfl) hC rfl rfl rfl rfl rfl rfl rfl ?_
      refine ⟨?_, rfl⟩
      refine (congrArg (fun b => [bo b]) (?_ : _ = _) : [bo _] = [bo _])
      unfold okOp; first | omega | (exact bT (by omega)) | (exact bF (by omega)) | (exact decide_eq_decide.2 (by omega))
  · try simp only [decide_eq_true_eq, decide_eq_false_iff_not, beq_iff_eq, bne_iff_ne, beq_eq_false_iff_ne, bne_eq_false_iff_eq, Bool.not_eq_true, Bool.not_eq_false, Bool.not_eq_eq_eq_not, Bool.not_true, Bool.not_false, List.length_map, Int.not_lt, Int.not_le, ne_eq, Decidable.not_not] at hg1
    refine vo_guard_off rfl rfl rfl rfl rfl ?_
    refine vo_guard_off rfl rfl rfl rfl rfl ?_
    refine vo_guard_off rfl rfl rfl rfl rfl ?_
    refine vo_pick_f rfl rfl ?_
    refine vo_move_pv rfl rfl ?_
    refine vo_guard_off rfl rfl rfl rfl rfl ?_
    refine vo_guard_off rfl rfl rfl rfl rfl ?_
    refine vo_guard_off rfl rfl rfl rfl rfl ?_
    refine vo_pick_f rfl rfl ?_
    refine vo_assign_pv rfl rfl ?_
    refine vo_nil ?_
    refine hK2 _ ?_
    refine vc_ret ?_
    change retQ _ _ _ _ _
    refine retQ_sel [] (srows := []) (.inr rfl) hC rfl rfl rfl rfl rfl rfl rfl ?_
    refine ⟨?_, rfl⟩
    refine (congrArg (fun b => [bo b]) (?_ : _ = _) : [bo _] = [bo _])
    unfold okOp; first | omega | (exact bT (by omega)) | (exact bF (by omega)) | (exact decide_eq_decide.2 (by omega))


theorem implValidOps_sat {nl0 : Option Bool} {list : List OpM} (hlist : list.length < 1000000000)  : SatAt Try.prog 16 [.pv false (.sl nl0 4 (list.map opP))] [] (fun res rows => res = [bo (decide (VOps list))] ∧ rows = []) := by
  refine sat_entry_G (rs := [(2, none)]) Try.func16 rfl rfl (Nat.le_of_ble_eq_true rfl) (Nat.le_of_ble_eq_true rfl) (resTs1 trivial) fun C hC => ?_
  rw [Try.ntmps16]
  replace hC : C.nb = 0 := hC
  refine vc_seq fun K1 hK1 => ?_
  refine vc_region ?_
  refine vo_assign_pv rfl rfl ?_
  refine vo_nil ?_
  refine hK1 _ ?_
  refine vc_seq fun K2 hK2 => ?_
  refine vc_seq fun K3 hK3 => ?_
  refine vc_region ?_
  refine vo_move_pv rfl rfl ?_
  refine vo_len_pv rfl rfl Try.underlying23 ?_
  refine vo_binI rfl rfl rfl rfl trivial ?_
  refine vo_nil ?_
  refine hK3 _ ?_
  refine vc_cond rfl (fun hc1 => ?_) (fun hc1 => ?_)
  · try simp only [decide_eq_true_eq, decide_eq_false_iff_not, beq_iff_eq, bne_iff_ne, beq_eq_false_iff_ne, bne_eq_false_iff_eq, Bool.not_eq_true, Bool.not_eq_false, Bool.not_eq_eq_eq_not, Bool.not_true, Bool.not_false, List.length_map, Int.not_lt, Int.not_le, ne_eq, Decidable.not_not] at hc1
    refine vc_seq fun K4 hK4 => ?_
    refine vc_region ?_
    refine vo_assign_pv rfl rfl ?_
    refine vo_nil ?_
    refine hK4 _ ?_
    refine vc_ret ?_
    change retQ _ _ _ _ _
    refine retQ_sel [] (srows := []) (.inr rfl) hC rfl rfl rfl rfl rfl rfl rfl ?_
    refine ⟨?_, rfl⟩
    refine (congrArg (fun b => [bo b]) (?_ : _ = _) : [bo _] = [bo _])
    exact bF fun h => by have := h.1; omega
  · try simp only [decide_eq_true_eq, decide_eq_false_iff_not, beq_iff_eq, bne_iff_ne, beq_eq_false_iff_ne, bne_eq_false_iff_eq, Bool.not_eq_true, Bool.not_eq_false, Bool.not_eq_eq_eq_not, Bool.not_true, Bool.not_false, List.length_map, Int.not_lt, Int.not_le, ne_eq, Decidable.not_not] at hc1
    refine vc_skip ?_
    refine hK2 _ ?_
    refine vc_seq fun K5 hK5 => ?_
    refine vc_seq fun K6 hK6 => ?_
    refine vc_region ?_
    refine vo_move_pv rfl rfl ?_
    refine vo_len_pv rfl rfl Try.underlying23 ?_
    refine vo_move_pv rfl rfl ?_
    refine vo_nil ?_
    refine hK6 _ ?_
    refine vc_block ?_
    refine vc_stM ?_
    refine vc_loopE [8, 9] [10] [] _ _ (fun mz vs rs => ∃ (k : Nat), mz = list.length - k ∧ (k ≤ list.length) ∧ (∀ o ∈ list.take k, okOp o) ∧ vs = [i64 k] ∧ rs = []) (list.length) rfl rfl (le_len hC rfl) ⟨rfl, rfl, rfl⟩ rfl ⟨0, rfl, Nat.zero_le _, (by simp), rfl, rfl⟩ ?_
    rintro mz vs rs - - ⟨k, rfl, hk, hf, rfl, rfl⟩
    refine vc_stM ?_
    refine vc_seq fun K7 hK7 => ?_
    refine vc_region ?_
    refine vo_binI rfl rfl rfl rfl trivial ?_
    refine vo_nil ?_
    refine hK7 _ ?_
    refine vc_seq fun K8 hK8 => ?_
    refine vc_cond rfl (fun hc2 => ?_) (fun hc2 => ?_)
    · try simp only [decide_eq_true_eq, decide_eq_false_iff_not, beq_iff_eq, bne_iff_ne, beq_eq_false_iff_ne, bne_eq_false_iff_eq, Bool.not_eq_true, Bool.not_eq_false, Bool.not_eq_eq_eq_not, Bool.not_true, Bool.not_false, List.length_map, Int.not_lt, Int.not_le, ne_eq, Decidable.not_not] at hc2
      refine vc_skip ?_
      refine hK8 _ ?_
      refine vc_seq fun K9 hK9 => ?_
      refine vc_block ?_
      refine vc_seq fun K10 hK10 => ?_
      refine vc_region ?_
      refine vo_index_pv (.agg [(.int .i64 0), (.int .i64 0), (.int .i64 0), (.bool false)]) rfl rfl rfl E23.und inf46 sz46 sd sd ?_
      simp only [Int.toNat_natCast, Int.toNat_zero, getD_ints, getD_intss, getD_bools, getD_bytes, PV.cells, getD_ops, getD_pairs, getD_insts]
      refine vo_load_adrS rfl rfl Try.underlying46 rfl inf46 sz46 rfl ?_
      refine vo_st (by (try simp only [St.put, PV.cells, PV.scal, List.drop_succ_cons, List.drop_zero, List.take_succ_cons, List.take_zero, List.map_cons, List.map_nil, Bool.or_true, Bool.or_false, Bool.false_or, Bool.true_or, opP, pairP, instP, heapP]); exact eq_refl _) ?_
      refine vo_alloc Z46 rfl ?_
      refine vo_stM ?_
      refine vo_store_varS rfl rfl rfl inf46 sz46 rfl ?_
      refine vo_stM ?_
      refine vo_nil ?_
      refine hK10 _ ?_
      refine vc_seq fun K11 hK11 => ?_
      refine vc_region ?_
      refine vo_load_varS rfl rfl rfl Try.underlying46 rfl inf46 sz46 rfl rfl ?_
      refine vo_call0 Try.func54 rfl rfl rfl rfl isOp_sat ?_
      rintro _ _ ⟨rfl, rfl⟩
      refine ⟨rfl, rfl, .inl rfl, ?_⟩
      refine vo_stM ?_
      refine vo_not rfl rfl ?_
      refine vo_nil ?_
      refine hK11 _ ?_
      refine vc_cond rfl (fun hc3 => ?_) (fun hc3 => ?_)
      · try simp only [decide_eq_true_eq, decide_eq_false_iff_not, beq_iff_eq, bne_iff_ne, beq_eq_false_iff_ne, bne_eq_false_iff_eq, Bool.not_eq_true, Bool.not_eq_false, Bool.not_eq_eq_eq_not, Bool.not_true, Bool.not_false, List.length_map, Int.not_lt, Int.not_le, ne_eq, Decidable.not_not] at hc3
        refine vc_seq fun K12 hK12 => ?_
        refine vc_region ?_
        refine vo_assign_pv rfl rfl ?_
        refine vo_nil ?_
        refine hK12 _ ?_
        refine vc_ret ?_
        change retQ _ _ _ _ _
        refine retQ_sel [] (srows := []) (.inr rfl) hC rfl rfl rfl rfl rfl rfl rfl ?_
        refine ⟨?_, rfl⟩
        refine (congrArg (fun b => [bo b]) (?_ : _ = _) : [bo _] = [bo _])
        exact bF fun h => hc3 (h.2 _ (getD_mem (show k < list.length by omega) ⟨0, 0, 0, false⟩))
      · try simp only [decide_eq_true_eq, decide_eq_false_iff_not, beq_iff_eq, bne_iff_ne, beq_eq_false_iff_ne, bne_eq_false_iff_eq, Bool.not_eq_true, Bool.not_eq_false, Bool.not_eq_eq_eq_not, Bool.not_true, Bool.not_false, List.length_map, Int.not_lt, Int.not_le, ne_eq, Decidable.not_not] at hc3
        refine vc_skip ?_
        refine hK9 _ ?_
        refine vc_region ?_
        refine vo_binI rfl rfl rfl rfl sd ?_
        refine vo_move_pv rfl rfl ?_
        refine vo_nil ?_
        change againE _ _ _ _ _ _ _ _ _ _
        refine againE_mk rfl rfl rfl rfl rfl rfl ⟨_, ?_, k + 1, rfl, ?_, ?_, rfl, rfl⟩
        · omega
        · omega
        · exact (all_take_succ (by omega) ⟨0, 0, 0, false⟩).2 ⟨hf, by first | assumption | (simpa using hc3)⟩
    · try simp only [decide_eq_true_eq, decide_eq_false_iff_not, beq_iff_eq, bne_iff_ne, beq_eq_false_iff_ne, bne_eq_false_iff_eq, Bool.not_eq_true, Bool.not_eq_false, Bool.not_eq_eq_eq_not, Bool.not_true, Bool.not_false, List.length_map, Int.not_lt, Int.not_le, ne_eq, Decidable.not_not] at hc2
      refine vc_exit ?_
      refine hK5 _ ?_
      refine vc_seq fun K13 hK13 => ?_
      refine vc_region ?_
      refine vo_assign_pv rfl rfl ?_
      refine vo_nil ?_
      refine hK13 _ ?_
      refine vc_ret ?_
      change retQ _ _ _ _ _
      refine retQ_sel [] (srows := []) (.inr rfl) hC rfl rfl rfl rfl rfl rfl rfl ?_
      refine ⟨?_, rfl⟩
      refine (congrArg (fun b => [bo b]) (?_ : _ = _) : [bo _] = [bo _])
      rw [take_all (by omega)] at hf; exact bT ⟨by omega, hf⟩


theorem specValidOps0_sat {nl0 : Option Bool} {list : List OpM} (hlist : list.length < 1000000000)  : SatAt Try.prog 55 [.pv false (.sl nl0 4 (list.map opP))] [] (fun res rows => res = [bo (decide (VOps list))] ∧ rows = []) := by
  refine sat_entry_G (rs := [(2, none)]) Try.func55 rfl rfl (Nat.le_of_ble_eq_true rfl) (Nat.le_of_ble_eq_true rfl) (resTs1 trivial) fun C hC => ?_
  rw [Try.ntmps55]
  replace hC : C.nb = 0 := hC
  refine vc_seq fun K1 hK1 => ?_
  refine vc_region ?_
  refine vo_assign_pv rfl rfl ?_
  refine vo_nil ?_
  refine hK1 _ ?_
  refine vc_seq fun K2 hK2 => ?_
  refine vc_seq fun K3 hK3 => ?_
  refine vc_region ?_
  refine vo_assign_pv rfl rfl ?_
  refine vo_nil ?_
  refine hK3 _ ?_
  refine vc_block ?_
  refine vc_stM ?_
  refine vc_loopE [0] [3] [] _ _ (fun mz vs rs => ∃ (k : Nat), mz = list.length - k ∧ (k ≤ list.length) ∧ (∀ o ∈ list.take k, okOp o) ∧ vs = [i64 k] ∧ rs = []) (list.length) rfl rfl (le_len hC rfl) ⟨rfl, rfl, rfl⟩ rfl ⟨0, rfl, Nat.zero_le _, (by simp), rfl, rfl⟩ ?_
  rintro mz vs rs - - ⟨k, rfl, hk, hf, rfl, rfl⟩
  refine vc_stM ?_
  refine vc_seq fun K4 hK4 => ?_
  refine vc_seq fun K5 hK5 => ?_
  refine vc_region ?_
  refine vo_move_pv rfl rfl ?_
  refine vo_move_pv rfl rfl ?_
  refine vo_len_pv rfl rfl Try.underlying23 ?_
  refine vo_binI rfl rfl rfl rfl trivial ?_
  refine vo_nil ?_
  refine hK5 _ ?_
  refine vc_cond rfl (fun hc1 => ?_) (fun hc1 => ?_)
  · try simp only [decide_eq_true_eq, decide_eq_false_iff_not, beq_iff_eq, bne_iff_ne, beq_eq_false_iff_ne, bne_eq_false_iff_eq, Bool.not_eq_true, Bool.not_eq_false, Bool.not_eq_eq_eq_not, Bool.not_true, Bool.not_false, List.length_map, Int.not_lt, Int.not_le, ne_eq, Decidable.not_not] at hc1
    refine vc_skip ?_
    refine hK4 _ ?_
    refine vc_seq fun K6 hK6 => ?_
    refine vc_block ?_
    refine vc_seq fun K7 hK7 => ?_
    refine vc_region ?_
    refine vo_move_pv rfl rfl ?_
    refine vo_move_pv rfl rfl ?_
    refine vo_index_pv (.agg [(.int .i64 0), (.int .i64 0), (.int .i64 0), (.bool false)]) rfl rfl rfl E23.und inf46 sz46 sd sd ?_
    simp only [Int.toNat_natCast, Int.toNat_zero, getD_ints, getD_intss, getD_bools, getD_bytes, PV.cells, getD_ops, getD_pairs, getD_insts]
    refine vo_load_adrS rfl rfl Try.underlying46 rfl inf46 sz46 rfl ?_
    refine vo_st (by (try simp only [St.put, PV.cells, PV.scal, List.drop_succ_cons, List.drop_zero, List.take_succ_cons, List.take_zero, List.map_cons, List.map_nil, Bool.or_true, Bool.or_false, Bool.false_or, Bool.true_or, opP, pairP, instP, heapP]); exact eq_refl _) ?_
    refine vo_alloc Z46 rfl ?_
    refine vo_stM ?_
    refine vo_store_varS rfl rfl rfl inf46 sz46 rfl ?_
    refine vo_stM ?_
    refine vo_nil ?_
    refine hK7 _ ?_
    refine vc_seq fun K8 hK8 => ?_
    refine vc_region ?_
    refine vo_fieldAddr_ptr rfl rfl Try.underlying46 rfl inf3 (by rw [sz3]; decide) ?_
    try simp only [Nat.zero_add]
    refine vo_load_var rfl rfl rfl Try.underlying3 rfl rfl ?_
    refine vo_call0 Try.func69 rfl rfl rfl rfl inRange_sat ?_
    rintro _ _ ⟨rfl, rfl⟩
    refine ⟨rfl, rfl, .inl rfl, ?_⟩
    refine vo_stM ?_
    refine vo_not rfl rfl ?_
    refine vo_move_pv rfl rfl ?_
    refine vo_split 19 rfl (fun hg2 => ?_) (fun hg2 => ?_)
    · try simp only [decide_eq_true_eq, decide_eq_false_iff_not, beq_iff_eq, bne_iff_ne, beq_eq_false_iff_ne, bne_eq_false_iff_eq, Bool.not_eq_true, Bool.not_eq_false, Bool.not_eq_eq_eq_not, Bool.not_true, Bool.not_false, List.length_map, Int.not_lt, Int.not_le, ne_eq, Decidable.not_not] at hg2
      refine vo_guard_off rfl rfl rfl rfl rfl ?_
      refine vo_guard_off rfl rfl rfl rfl rfl ?_
      refine vo_guard_off rfl rfl rfl rfl rfl ?_
      refine vo_guard_off rfl rfl rfl rfl rfl ?_
      refine vo_pick_t rfl rfl ?_
      refine vo_move_pv rfl rfl ?_
      refine vo_guard_off rfl rfl rfl rfl rfl ?_
      refine vo_guard_off rfl rfl rfl rfl rfl ?_
      refine vo_guard_off rfl rfl rfl rfl rfl ?_
      refine vo_guard_off rfl rfl rfl rfl rfl ?_
      refine vo_pick_t rfl rfl ?_
      refine vo_nil ?_
      refine hK8 _ ?_
      refine vc_cond_t rfl ?_
      refine vc_seq fun K9 hK9 => ?_
      refine vc_region ?_
      refine vo_assign_pv rfl rfl ?_
      refine vo_nil ?_
      refine hK9 _ ?_
      refine vc_ret ?_
      change retQ _ _ _ _ _
      refine retQ_sel [] (srows := []) (.inr rfl) hC rfl rfl rfl rfl rfl rfl rfl ?_
      refine ⟨?_, rfl⟩
      refine (congrArg (fun b => [bo b]) (?_ : _ = _) : [bo _] = [bo _])
      refine bF fun h => ?_
      have h1 := h.2 _ (getD_mem (show k < list.length by omega) ⟨0, 0, 0, false⟩)
      unfold okOp at h1; omega
    · try simp only [decide_eq_true_eq, decide_eq_false_iff_not, beq_iff_eq, bne_iff_ne, beq_eq_false_iff_ne, bne_eq_false_iff_eq, Bool.not_eq_true, Bool.not_eq_false, Bool.not_eq_eq_eq_not, Bool.not_true, Bool.not_false, List.length_map, Int.not_lt, Int.not_le, ne_eq, Decidable.not_not] at hg2
      refine vo_guard_on rfl rfl rfl ?_
      refine vo_fieldAddr_ptr rfl rfl Try.underlying46 rfl inf3 (by rw [sz3]; decide) ?_
      try simp only [Nat.zero_add]
      refine vo_guard_on rfl rfl rfl ?_
      refine vo_load_var rfl rfl rfl Try.underlying3 rfl rfl ?_
      refine vo_guard_on rfl rfl rfl ?_
      refine vo_call0 Try.func69 rfl rfl rfl rfl inRange_sat ?_
      rintro _ _ ⟨rfl, rfl⟩
      refine ⟨rfl, rfl, .inl rfl, ?_⟩
      refine vo_stM ?_
      refine vo_guard_on rfl rfl rfl ?_
      refine vo_not rfl rfl ?_
      refine vo_pick_f rfl rfl ?_
      refine vo_move_pv rfl rfl ?_
      refine vo_split 25 rfl (fun hg3 => ?_) (fun hg3 => ?_)
      · try simp only [decide_eq_true_eq, decide_eq_false_iff_not, beq_iff_eq, bne_iff_ne, beq_eq_false_iff_ne, bne_eq_false_iff_eq, Bool.not_eq_true, Bool.not_eq_false, Bool.not_eq_eq_eq_not, Bool.not_true, Bool.not_false, List.length_map, Int.not_lt, Int.not_le, ne_eq, Decidable.not_not] at hg3
        refine vo_guard_off rfl rfl rfl rfl rfl ?_
        refine vo_guard_off rfl rfl rfl rfl rfl ?_
        refine vo_guard_off rfl rfl rfl rfl rfl ?_
        refine vo_guard_off rfl rfl rfl rfl rfl ?_
        refine vo_pick_t rfl rfl ?_
        refine vo_nil ?_
        refine hK8 _ ?_
        refine vc_cond_t rfl ?_
        refine vc_seq fun K10 hK10 => ?_
        refine vc_region ?_
        refine vo_assign_pv rfl rfl ?_
        refine vo_nil ?_
        refine hK10 _ ?_
        refine vc_ret ?_
        change retQ _ _ _ _ _
        refine retQ_sel [] (srows := []) (.inr rfl) hC rfl rfl rfl rfl rfl rfl rfl ?_
        refine ⟨?_, rfl⟩
        refine (congrArg (fun b => [bo b]) (?_ : _ = _) : [bo _] = [bo _])
        refine bF fun h => ?_
        have h1 := h.2 _ (getD_mem (show k < list.length by omega) ⟨0, 0, 0, false⟩)
        unfold okOp at h1; omega
      · try simp only [decide_eq_true_eq, decide_eq_false_iff_not, beq_iff_eq, bne_iff_ne, beq_eq_false_iff_ne, bne_eq_false_iff_eq, Bool.not_eq_true, Bool.not_eq_false, Bool.not_eq_eq_eq_not, Bool.not_true, Bool.not_false, List.length_map, Int.not_lt, Int.not_le, ne_eq, Decidable.not_not] at hg3
        refine vo_guard_on rfl rfl rfl ?_
        refine vo_fieldAddr_ptr rfl rfl Try.underlying46 rfl inf3 (by rw [sz3]; decide) ?_
        try simp only [Nat.zero_add]
        refine vo_guard_on rfl rfl rfl ?_
        refine vo_load_var rfl rfl rfl Try.underlying3 rfl rfl ?_
        refine vo_guard_on rfl rfl rfl ?_
        refine vo_call0 Try.func69 rfl rfl rfl rfl inRange_sat ?_
        rintro _ _ ⟨rfl, rfl⟩
        refine ⟨rfl, rfl, .inl rfl, ?_⟩
        refine vo_stM ?_
        refine vo_guard_on rfl rfl rfl ?_
        refine vo_not rfl rfl ?_
        refine vo_pick_f rfl rfl ?_
        refine vo_nil ?_
        refine hK8 _ ?_
        refine vc_cond rfl (fun hc4 => ?_) (fun hc4 => ?_)
        · try simp only [decide_eq_true_eq, decide_eq_false_iff_not, beq_iff_eq, bne_iff_ne, beq_eq_false_iff_ne, bne_eq_false_iff_eq, Bool.not_eq_true, Bool.not_eq_false, Bool.not_eq_eq_eq_not, Bool.not_true, Bool.not_false, List.length_map, Int.not_lt, Int.not_le, ne_eq, Decidable.not_not] at hc4
          refine vc_seq fun K11 hK11 => ?_
          refine vc_region ?_
          refine vo_assign_pv rfl rfl ?_
          refine vo_nil ?_
          refine hK11 _ ?_
          refine vc_ret ?_
          change retQ _ _ _ _ _
          refine retQ_sel [] (srows := []) (.inr rfl) hC rfl rfl rfl rfl rfl rfl rfl ?_
          refine ⟨?_, rfl⟩
          refine (congrArg (fun b => [bo b]) (?_ : _ = _) : [bo _] = [bo _])
          refine bF fun h => ?_
          have h1 := h.2 _ (getD_mem (show k < list.length by omega) ⟨0, 0, 0, false⟩)
          unfold okOp at h1; omega
        · try simp only [decide_eq_true_eq, decide_eq_false_iff_not, beq_iff_eq, bne_iff_ne, beq_eq_false_iff_ne, bne_eq_false_iff_eq, Bool.not_eq_true, Bool.not_eq_false, Bool.not_eq_eq_eq_not, Bool.not_true, Bool.not_false, List.length_map, Int.not_lt, Int.not_le, ne_eq, Decidable.not_not] at hc4
          refine vc_skip ?_
          refine hK6 _ ?_
          refine vc_region ?_
          refine vo_move_pv rfl rfl ?_
          refine vo_binI rfl rfl rfl rfl sd ?_
          refine vo_assign_pv rfl rfl ?_
          refine vo_nil ?_
          change againE _ _ _ _ _ _ _ _ _ _
          refine againE_mk rfl rfl rfl rfl rfl rfl ⟨_, ?_, k + 1, rfl, ?_, ?_, rfl, rfl⟩
          · omega
          · omega
          · refine (all_take_succ (by omega) ⟨0, 0, 0, false⟩).2 ⟨hf, ?_⟩
            unfold okOp; omega
  · try simp only [decide_eq_true_eq, decide_eq_false_iff_not, beq_iff_eq, bne_iff_ne, beq_eq_false_iff_ne, bne_eq_false_iff_eq, Bool.not_eq_true, Bool.not_eq_false, Bool.not_eq_eq_eq_not, Bool.not_true, Bool.not_false, List.length_map, Int.not_lt, Int.not_le, ne_eq, Decidable.not_not] at hc1
    refine vc_exit ?_
    refine hK2 _ ?_
    refine vc_seq fun K12 hK12 => ?_
    refine vc_region ?_
    refine vo_move_pv rfl rfl ?_
    refine vo_len_pv rfl rfl Try.underlying23 ?_
    refine vo_binI rfl rfl rfl rfl trivial ?_
    refine vo_assign_pv rfl rfl ?_
    refine vo_nil ?_
    refine hK12 _ ?_
    refine vc_ret ?_
    change retQ _ _ _ _ _
    refine retQ_sel [] (srows := []) (.inr rfl) hC rfl rfl rfl rfl rfl rfl rfl ?_
    refine ⟨?_, rfl⟩
    refine (congrArg (fun b => [bo b]) (?_ : _ = _) : [bo _] = [bo _])
    rw [take_all (by omega)] at hf
    exact decide_eq_decide.2 ⟨fun h => ⟨by simp at h; omega, hf⟩, fun h => by have := h.1; simp; omega⟩


end Go.Vl


namespace Go.Vl
set_option linter.unusedVariables false
set_option linter.unusedSimpArgs false
open Go.Proofs
open Go.Proofs
end Go.Vl


namespace Go.Vl
set_option linter.unusedVariables false
set_option linter.unusedSimpArgs false
open Go.Proofs
open Go.Proofs
def nms (l : List (Int × Int)) : List Int := l.map Prod.fst
theorem getD_nms (l : List (Int × Int)) (k : Nat) : (nms l).getD k 0 = (l.getD k (0, 0)).1 := getD_map0 Prod.fst l k (0, 0) 0 rfl
@[simp] theorem nms_len (l : List (Int × Int)) : (nms l).length = l.length := by simp [nms]
theorem take_nms (l : List (Int × Int)) (k : Nat) : (nms l).take k = nms (l.take k) := by simp [nms]
theorem findM_nms (n : Int) (l : List (Int × Int)) (k : Nat) (h : k < l.length) : findM n ((nms l).drop k) k = if (l.getD k (0, 0)).1 = n then (k : Int) else findM n ((nms l).drop (k+1)) (k+1) := by
  rw [findM_drop _ _ _ (by rw [nms_len]; exact h), getD_nms]
def SPairs (a b : List (Int × Int)) : Prop := a.length ≤ 40 ∧ (nms a).Nodup ∧ a.length = b.length ∧ ∀ p ∈ a, p ∈ b
instance (a b : List (Int × Int)) : Decidable (SPairs a b) := by unfold SPairs; exact inferInstance
theorem findM_pos_iff {n : Int} {l : List Int} : ∀ {k : Int}, 0 ≤ k → 0 ≤ findM n l k → ∃ i, i < l.length ∧ findM n l k = k + i ∧ l.getD i 0 = n ∧ ∀ j, j < i → l.getD j 0 ≠ n := by
  induction l with
  | nil => intro k hk h; simp [findM] at h
  | cons x xs ih =>
    intro k hk h
    by_cases hx : x = n
    · exact ⟨0, by simp, by simp [findM, hx], by simp [hx], fun j hj => by omega⟩
    · have e : findM n (x :: xs) k = findM n xs (k + 1) := by simp [findM, hx]
      rw [e] at h
      obtain ⟨i, hi, h1, h2, h3⟩ := ih (by omega) h
      refine ⟨i + 1, by simp; omega, by rw [e, h1]; push_cast; omega, by simpa using h2, fun j hj => ?_⟩
      cases j with
      | zero => simpa using hx
      | succ j => simpa using h3 j (by omega)
/-- The value that a name has in pairs of different names. -/
theorem pair_at {b : List (Int × Int)} {n : Int} {z : Nat} (hz : findM n (nms b) 0 = z) : z < b.length ∧ (b.getD z (0,0)).1 = n := by
  obtain ⟨i, hi, h1, h2, _⟩ := findM_pos_iff (n := n) (l := nms b) (k := 0) (by omega) (by omega)
  have : i = z := by omega
  subst this
  rw [getD_nms] at h2; rw [nms_len] at hi
  exact ⟨hi, h2⟩
theorem pair_mem_nms {p : Int × Int} {b : List (Int × Int)} (h : p ∈ b) : p.1 ∈ nms b := List.mem_map_of_mem h
theorem Q37 : EqI2 Try.prog 37 := by
  refine ⟨fun x y x' y' w => ?_, by kernel_rfl⟩
  have hS : Try.prog.underlying 37 = some (.struct (Try.prog.fieldsOf 37)) := by kernel_rfl
  have hp : Try.prog.stoodInHeld 37 = false := by kernel_rfl
  have u3 := Try.underlying3
  have a3 := Try.isAgg3
  have z3 := Try.sizeOf3
  rw [show (10000 : Nat) = 9999 + 1 from rfl, run_equalIn_agg w 9999 37 _ _ hS hp]
  simp only [Program.fieldsOf, Try.underlying37]
  go_simp
  by_cases h1 : x = x' <;> by_cases h2 : y = y' <;> simp [h1, h2]

theorem pairAt_sat {nl0 : Option Bool} {list : List (Int × Int)} {name : Int} (hlist : list.length < 1000000000)  : SatAt Try.prog 62 [.pv false (.sl nl0 2 (list.map pairP)), i64 name] [] (fun res rows => res = [i64 (findM name (nms list) 0)] ∧ rows = []) := by
  refine sat_entry_G (rs := [(4, none)]) Try.func62 rfl rfl (Nat.le_of_ble_eq_true rfl) (Nat.le_of_ble_eq_true rfl) (resTs1 trivial) fun C hC => ?_
  rw [Try.ntmps62]
  replace hC : C.nb = 0 := hC
  refine vc_seq fun K1 hK1 => ?_
  refine vc_region ?_
  refine vo_assign_pv rfl rfl ?_
  refine vo_nil ?_
  refine hK1 _ ?_
  refine vc_seq fun K2 hK2 => ?_
  refine vc_seq fun K3 hK3 => ?_
  refine vc_region ?_
  refine vo_assign_pv rfl rfl ?_
  refine vo_nil ?_
  refine hK3 _ ?_
  refine vc_block ?_
  refine vc_stM ?_
  refine vc_loopE [0, 1] [5] [] _ _ (fun mz vs rs => ∃ (k : Nat), mz = list.length - k ∧ (k ≤ list.length) ∧ (findM name (nms list) 0 = findM name ((nms list).drop k) k) ∧ vs = [i64 k] ∧ rs = []) (list.length) rfl rfl (le_len hC rfl) ⟨rfl, rfl, rfl⟩ rfl ⟨0, rfl, Nat.zero_le _, rfl, rfl, rfl⟩ ?_
  rintro mz vs rs - - ⟨k, rfl, hk, hf, rfl, rfl⟩
  refine vc_stM ?_
  refine vc_seq fun K4 hK4 => ?_
  refine vc_seq fun K5 hK5 => ?_
  refine vc_region ?_
  refine vo_move_pv rfl rfl ?_
  refine vo_move_pv rfl rfl ?_
  refine vo_len_pv rfl rfl Try.underlying32 ?_
  refine vo_binI rfl rfl rfl rfl trivial ?_
  refine vo_nil ?_
  refine hK5 _ ?_
  refine vc_cond rfl (fun hc1 => ?_) (fun hc1 => ?_)
  · try simp only [decide_eq_true_eq, decide_eq_false_iff_not, beq_iff_eq, bne_iff_ne, beq_eq_false_iff_ne, bne_eq_false_iff_eq, Bool.not_eq_true, Bool.not_eq_false, Bool.not_eq_eq_eq_not, Bool.not_true, Bool.not_false, List.length_map, Int.not_lt, Int.not_le, ne_eq, Decidable.not_not] at hc1
    refine vc_skip ?_
    refine hK4 _ ?_
    refine vc_seq fun K6 hK6 => ?_
    refine vc_block ?_
    refine vc_seq fun K7 hK7 => ?_
    refine vc_region ?_
    refine vo_move_pv rfl rfl ?_
    refine vo_move_pv rfl rfl ?_
    refine vo_index_pv (.agg [(.int .i64 0), (.int .i64 0)]) rfl rfl rfl E32.und inf37 sz37 sd sd ?_
    simp only [Int.toNat_natCast, Int.toNat_zero, getD_ints, getD_intss, getD_bools, getD_bytes, PV.cells, getD_ops, getD_pairs, getD_insts]
    refine vo_fieldAddr_adr rfl rfl Try.underlying37 rfl inf3 (by rw [sz3]; decide) ?_
    refine vo_load_adr rfl rfl Try.underlying3 rfl ?_
    refine vo_move_pv rfl rfl ?_
    refine vo_binI rfl rfl rfl rfl trivial ?_
    refine vo_nil ?_
    refine hK7 _ ?_
    refine vc_cond rfl (fun hc2 => ?_) (fun hc2 => ?_)
    · try simp only [decide_eq_true_eq, decide_eq_false_iff_not, beq_iff_eq, bne_iff_ne, beq_eq_false_iff_ne, bne_eq_false_iff_eq, Bool.not_eq_true, Bool.not_eq_false, Bool.not_eq_eq_eq_not, Bool.not_true, Bool.not_false, List.length_map, Int.not_lt, Int.not_le, ne_eq, Decidable.not_not] at hc2
      refine vc_seq fun K8 hK8 => ?_
      refine vc_region ?_
      refine vo_move_pv rfl rfl ?_
      refine vo_assign_pv rfl rfl ?_
      refine vo_nil ?_
      refine hK8 _ ?_
      refine vc_ret ?_
      change retQ _ _ _ _ _
      refine retQ_sel [] (srows := []) (.inr rfl) hC rfl rfl rfl rfl rfl rfl rfl ?_
      refine ⟨?_, rfl⟩
      refine (congrArg (fun b => [i64 b]) (?_ : _ = _) : [i64 _] = [i64 _])
      rw [hf, findM_nms _ _ _ (by omega), if_pos (by omega)]
    · try simp only [decide_eq_true_eq, decide_eq_false_iff_not, beq_iff_eq, bne_iff_ne, beq_eq_false_iff_ne, bne_eq_false_iff_eq, Bool.not_eq_true, Bool.not_eq_false, Bool.not_eq_eq_eq_not, Bool.not_true, Bool.not_false, List.length_map, Int.not_lt, Int.not_le, ne_eq, Decidable.not_not] at hc2
      refine vc_skip ?_
      refine hK6 _ ?_
      refine vc_region ?_
      refine vo_move_pv rfl rfl ?_
      refine vo_binI rfl rfl rfl rfl sd ?_
      refine vo_assign_pv rfl rfl ?_
      refine vo_nil ?_
      change againE _ _ _ _ _ _ _ _ _ _
      refine againE_mk rfl rfl rfl rfl rfl rfl ⟨_, ?_, k + 1, rfl, ?_, ?_, rfl, rfl⟩
      · omega
      · omega
      · rw [hf, findM_nms _ _ _ (by omega), if_neg (by omega)]; rfl
  · try simp only [decide_eq_true_eq, decide_eq_false_iff_not, beq_iff_eq, bne_iff_ne, beq_eq_false_iff_ne, bne_eq_false_iff_eq, Bool.not_eq_true, Bool.not_eq_false, Bool.not_eq_eq_eq_not, Bool.not_true, Bool.not_false, List.length_map, Int.not_lt, Int.not_le, ne_eq, Decidable.not_not] at hc1
    refine vc_exit ?_
    refine hK2 _ ?_
    refine vc_seq fun K9 hK9 => ?_
    refine vc_region ?_
    refine vo_assign_pv rfl rfl ?_
    refine vo_nil ?_
    refine hK9 _ ?_
    refine vc_ret ?_
    change retQ _ _ _ _ _
    refine retQ_sel [] (srows := []) (.inr rfl) hC rfl rfl rfl rfl rfl rfl rfl ?_
    refine ⟨?_, rfl⟩
    refine (congrArg (fun b => [i64 b]) (?_ : _ = _) : [i64 _] = [i64 _])
    rw [hf, show k = (nms list).length by rw [nms_len]; omega, List.drop_length]; rfl


end Go.Vl


namespace Go.Vl
set_option linter.unusedVariables false
set_option linter.unusedSimpArgs false
open Go.Proofs
open Go.Proofs
def GI63 (x : InstM) : Prop := x.order.length ≤ 9223372036854775807 ∧ x.values.length ≤ 9223372036854775807 ∧ x.own.length ≤ 9223372036854775807
def GH63 (h : HeapM) : Prop := h.keys.length ≤ 9223372036854775807 ∧ h.insts.length ≤ 9223372036854775807 ∧ ∀ x ∈ h.insts, GI63 x
/-- Sizes that the conversions need. -/
def SI (x : InstM) : Prop := x.order.length ≤ 2000000 ∧ x.values.length ≤ 2000000 ∧ x.own.length ≤ 2000000
def SH (h : HeapM) : Prop := h.keys.length ≤ 2000000 ∧ h.insts.length ≤ 2000000 ∧ ∀ x ∈ h.insts, SI x
end Go.Vl


namespace Go.Vl
set_option linter.unusedVariables false
set_option linter.unusedSimpArgs false
open Go.Proofs

/-- The places of the values that are there. -/
def plc (vs : List Int) (k : Nat) : List Int := ((List.range k).filter fun i => decide (vs.getD i 0 ≠ -1)).map Int.ofNat
def TPl (order vs : List Int) : Prop := (∀ x ∈ plc vs vs.length, x ∈ order) ∧ order.length = (plc vs vs.length).length
instance (a b : List Int) : Decidable (TPl a b) := by unfold TPl; exact inferInstance
def okPair (p : Int × Int) : Prop := (0 ≤ p.1 ∧ p.1 ≤ 9) ∧ (0 ≤ p.2 ∧ p.2 ≤ 99)
instance (p : Int × Int) : Decidable (okPair p) := by unfold okPair; exact inferInstance
def AOwn (l : List (Int × Int)) : Prop := (nms l).Nodup ∧ ∀ p ∈ l, okPair p
instance (l : List (Int × Int)) : Decidable (AOwn l) := by unfold AOwn; exact inferInstance
def AShared (vs : List Int) : Prop := (∀ v ∈ vs, -1 ≤ v ∧ v ≤ 99) ∧ (vs.length = 0 ∨ 0 ≤ vs.getD (vs.length - 1) 0)
instance (l : List Int) : Decidable (AShared l) := by unfold AShared; exact inferInstance
def VInst (n : Nat) (x : InstM) : Prop := if x.shares = true then x.own.length = 0 ∧ x.values.length ≤ n ∧ AShared x.values ∧ TPl x.order x.values else x.order.length = 0 ∧ x.values.length = 0 ∧ AOwn x.own
instance (n : Nat) (x : InstM) : Decidable (VInst n x) := by unfold VInst; exact inferInstance
def VHeap (h : HeapM) : Prop := (h.keys.length ≤ 5 ∧ h.keys.Nodup) ∧ (∀ k ∈ h.keys, 0 ≤ k ∧ k ≤ 9) ∧ h.insts.length = 4 ∧ ∀ x ∈ h.insts, VInst h.keys.length x
instance (h : HeapM) : Decidable (VHeap h) := by unfold VHeap; exact inferInstance
/-- What trimming leaves. -/
def TrM (vs : List Int) (m : Nat) : Prop := m ≤ vs.length ∧ (∀ i, m ≤ i → i < vs.length → vs.getD i 0 = -1) ∧ (m = 0 ∨ vs.getD (m - 1) 0 ≠ -1)
end Go.Vl


namespace Go.Vl
set_option linter.unusedVariables false
set_option linter.unusedSimpArgs false
open Go.Proofs

end Go.Vl


namespace Go.Vl
set_option linter.unusedVariables false
set_option linter.unusedSimpArgs false
open Go.Proofs

theorem findM_lt {n : Int} {b : List (Int × Int)} (hz : 0 ≤ findM n (nms b) 0) : findM n (nms b) 0 < b.length := by
  obtain ⟨z, e⟩ : ∃ z : Nat, findM n (nms b) 0 = z := ⟨_, (Int.toNat_of_nonneg hz).symm⟩
  rw [e]; have := (pair_at e).1; omega

end Go.Vl


/- Operations that read no memory come at any time, behind those that write too. -/
namespace Go.Vl
set_option linter.unusedVariables false
set_option linter.unusedSimpArgs false
open Go.RowKit
section
variable {P : Program} {C : Ctx} {s : St} {t : Nat} {ty : TypeId} {pos : String} {af : Array Edge}

end
end Go.Vl


namespace Go.Vl
set_option linter.unusedVariables false
set_option linter.unusedSimpArgs false
open Go.Proofs

/-- The pair at a place. -/
def pfn (keys vals : List Int) (p : Int) : Int × Int := (keys.getD p.toNat 0, vals.getD p.toNat 0)
def ppl (keys vals l : List Int) : List (Int × Int) := l.map (pfn keys vals)
@[simp] theorem ppl_len (keys vals l : List Int) : (ppl keys vals l).length = l.length := by simp [ppl]
def prs (keys : List Int) (x : InstM) : List (Int × Int) := if x.shares = true then ppl keys x.values x.order else x.own
def prsM (h : HeapM) (who : Int) : List (Int × Int) := if VHeap h ∧ 0 ≤ who ∧ who ≤ 3 then prs h.keys (h.insts.getD who.toNat ⟨false, [], [], []⟩) else []
/-- The places of an order lie among keys and values. -/
def OrdOk (n : Nat) (x : InstM) : Prop := x.shares = true → ∀ p ∈ x.order, 0 ≤ p ∧ p < n ∧ p < x.values.length
theorem scal_pairs (l : List (Int × Int)) : ∀ x ∈ l.map pairP, ∀ c ∈ x.cells, c.scal = true := by
  intro x hx c hc
  obtain ⟨n, _, rfl⟩ := List.mem_map.1 hx
  simp [PV.cells] at hc
  rcases hc with rfl | rfl <;> rfl
def vl (l : List (Int × Int)) (n : Int) : Int := if findM n (nms l) 0 < 0 then -1 else (l.getD (findM n (nms l) 0).toNat (0, 0)).2
end Go.Vl


namespace Go.Vl
set_option linter.unusedVariables false
set_option linter.unusedSimpArgs false
open Go.Proofs

theorem getE_pairs {l : List (Int × Int)} {i : Nat} (h : i < l.length) : (l.map pairP)[i]? = some (.agg [.int .i64 (l.getD i (0, 0)).1, .int .i64 (l.getD i (0, 0)).2]) := by
  rw [List.getElem?_map, List.getElem?_eq_getElem h]
  simp [List.getD, List.getElem?_eq_getElem h]
/-- Pairs after a change. -/
def chg (l : List (Int × Int)) (o : OpM) : List (Int × Int) :=
  if o.gone = true then (if 0 ≤ findM o.name (nms l) 0 then l.take (findM o.name (nms l) 0).toNat ++ l.drop (findM o.name (nms l) 0 + 1).toNat else l)
  else if 0 ≤ findM o.name (nms l) 0 then l.set (findM o.name (nms l) 0).toNat ((l.getD (findM o.name (nms l) 0).toNat (0, 0)).1, o.value) else l ++ [(o.name, o.value)]
theorem chg_len (l : List (Int × Int)) (o : OpM) : (chg l o).length ≤ l.length + 1 := by
  unfold chg
  split
  · split
    · rw [List.length_append, List.length_take, List.length_drop]; omega
    · omega
  · split
    · rw [List.length_set]; omega
    · simp
def plpK (list : List OpM) (who : Int) (k : Nat) : List (Int × Int) := (list.take k).foldl (fun l o => if o.who = who then chg l o else l) []
theorem plpK_yes {list : List OpM} {who : Int} {k : Nat} (h : k < list.length) (hw : (list.getD k ⟨0, 0, 0, false⟩).who = who) : plpK list who (k+1) = chg (plpK list who k) (list.getD k ⟨0, 0, 0, false⟩) := by
  have : list.take (k+1) = list.take k ++ [list.getD k ⟨0, 0, 0, false⟩] := by rw [List.take_add_one, List.getD, List.getElem?_eq_getElem h]; rfl
  unfold plpK; rw [this, List.foldl_append, List.foldl_cons, List.foldl_nil, if_pos hw]
theorem plpK_no {list : List OpM} {who : Int} {k : Nat} (h : k < list.length) (hw : ¬ (list.getD k ⟨0, 0, 0, false⟩).who = who) : plpK list who (k+1) = plpK list who k := by
  have : list.take (k+1) = list.take k ++ [list.getD k ⟨0, 0, 0, false⟩] := by rw [List.take_add_one, List.getD, List.getElem?_eq_getElem h]; rfl
  unfold plpK; rw [this, List.foldl_append, List.foldl_cons, List.foldl_nil, if_neg hw]
theorem plpK_len {list : List OpM} {who : Int} : ∀ k, k ≤ list.length → (plpK list who k).length ≤ k
  | 0, _ => by simp [plpK]
  | k+1, h => by
    have ih := plpK_len (list := list) (who := who) k (by omega)
    by_cases hw : (list.getD k ⟨0, 0, 0, false⟩).who = who
    · rw [plpK_yes (by omega) hw]; have := chg_len (plpK list who k) (list.getD k ⟨0, 0, 0, false⟩); omega
    · rw [plpK_no (by omega) hw]; omega
def plp (list : List OpM) (who : Int) : List (Int × Int) := if VOps list ∧ 0 ≤ who ∧ who ≤ 3 then plpK list who list.length else []
theorem plp_len (list : List OpM) (who : Int) : (plp list who).length ≤ 40 := by
  unfold plp
  split
  · rename_i h; have := plpK_len (list := list) (who := who) list.length (Nat.le_refl _); have := h.1.1; omega
  · simp

theorem change_sat {nl0 : Option Bool} {list : List (Int × Int)} {o : OpM} (hlist : list.length < 1000000000)  : SatAt Try.prog 70 [.pv false (.sl nl0 2 (list.map pairP)), .pv false (opP o)] [] (fun res rows => ∃ nl, res = [.pv true (.sl nl 2 ((chg list o).map pairP))] ∧ rows = []) := by
  refine sat_entry_G (rs := [(4, none)]) Try.func70 rfl rfl (Nat.le_of_ble_eq_true rfl) (Nat.le_of_ble_eq_true rfl) (resTs1 trivial) fun C hC => ?_
  rw [Try.ntmps70]
  replace hC : C.nb = 0 := hC
  refine vc_seq fun K1 hK1 => ?_
  refine vc_region ?_
  refine vo_box rfl rfl ?_
  refine vo_stM ?_
  refine vo_assign_pv rfl rfl ?_
  refine vo_nil ?_
  refine hK1 _ ?_
  refine vc_seq fun K2 hK2 => ?_
  refine vc_region ?_
  refine vo_buildSlice E32 rfl rfl rfl rfl rfl ?_
  refine vo_stM ?_
  refine vo_move_pv rfl rfl ?_
  refine vo_append E32 rfl (by omega) rfl rfl rfl sd sd ?_
  refine vo_stM ?_
  try simp only [app_ints, app_intss, app_bools, List.nil_append, app_pairs, ← List.map_take, ← List.map_drop, ← List.map_append]
  refine vo_clean 1 rfl (scal_pairs _) ?_
  refine vo_stM ?_
  refine vo_assign_ref rfl rfl ?_
  refine vo_nil ?_
  refine hK2 _ ?_
  refine vc_seq fun K3 hK3 => ?_
  refine vc_region ?_
  refine vo_move_ref rfl rfl ?_
  refine vo_fieldAddr_ptr rfl rfl Try.underlying46 rfl inf3 (by rw [sz3]; decide) ?_
  try simp only [Nat.zero_add]
  refine vo_load_var rfl rfl rfl Try.underlying3 rfl rfl ?_
  refine vo_call0 Try.func62 rfl rfl rfl rfl (pairAt_sat (by omega)) ?_
  rintro _ _ ⟨rfl, rfl⟩
  refine ⟨rfl, rfl, .inr rfl, ?_⟩
  refine vo_stM ?_
  refine vo_assign_pv rfl rfl ?_
  refine vo_nil ?_
  refine hK3 _ ?_
  refine vc_seq fun K4 hK4 => ?_
  refine vc_seq fun K5 hK5 => ?_
  refine vc_region ?_
  refine vo_fieldAddr_ptr rfl rfl Try.underlying46 rfl inf4 (by rw [sz4]; decide) ?_
  try simp only [Nat.zero_add]
  refine vo_load_var rfl rfl rfl Try.underlying4 rfl rfl ?_
  refine vo_move_pv rfl rfl ?_
  refine vo_split 16 rfl (fun hg1 => ?_) (fun hg1 => ?_)
  · try simp only [decide_eq_true_eq, decide_eq_false_iff_not, beq_iff_eq, bne_iff_ne, beq_eq_false_iff_ne, bne_eq_false_iff_eq, Bool.not_eq_true, Bool.not_eq_false, Bool.not_eq_eq_eq_not, Bool.not_true, Bool.not_false, List.length_map, Int.not_lt, Int.not_le, ne_eq, Decidable.not_not] at hg1
    refine vo_guard_on rfl rfl rfl ?_
    refine vo_move_pv rfl rfl ?_
    refine vo_guard_on rfl rfl rfl ?_
    refine vo_binI rfl rfl rfl rfl trivial ?_
    refine vo_pick_t rfl rfl ?_
    refine vo_nil ?_
    refine hK5 _ ?_
    refine vc_cond rfl (fun hc2 => ?_) (fun hc2 => ?_)
    · try simp only [decide_eq_true_eq, decide_eq_false_iff_not, beq_iff_eq, bne_iff_ne, beq_eq_false_iff_ne, bne_eq_false_iff_eq, Bool.not_eq_true, Bool.not_eq_false, Bool.not_eq_eq_eq_not, Bool.not_true, Bool.not_false, List.length_map, Int.not_lt, Int.not_le, ne_eq, Decidable.not_not] at hc2
      have hlt := findM_lt hc2
      refine vc_seq fun K6 hK6 => ?_
      refine vc_drawL [7, 8] (by kernel_rfl) ?_
      change VL [7, 8] _ _ _ 9 _ _ _
      refine vl_light 0 [1, 3, 4, 5, 6] rfl rfl rfl (by kernel_rfl) (by kernel_rfl) (by kernel_rfl) (by kernel_rfl) (by kernel_rfl) (wnt_none rfl) (lt_move_ref rfl) ?_
      refine vl_light 1 [0, 3, 4, 5, 6] rfl rfl rfl (by kernel_rfl) (by kernel_rfl) (by kernel_rfl) (by kernel_rfl) (by kernel_rfl) (wnt_none rfl) (lt_move_pv rfl) ?_
      refine vl_light 2 [0, 1, 3, 4, 5, 6] rfl rfl rfl (by kernel_rfl) (by kernel_rfl) (by kernel_rfl) (by kernel_rfl) (by kernel_rfl) (wnt_none rfl) (lt_slice_ref rfl rfl rfl rfl E32.und inf37 sz37 sd sd sd) ?_
      try simp only [Int.toNat_natCast, Int.toNat_zero]
      refine vl_light 3 [0, 1, 2, 4, 5] rfl rfl rfl (by kernel_rfl) (by kernel_rfl) (by kernel_rfl) (by kernel_rfl) (by kernel_rfl) (wnt_none rfl) (lt_move_ref rfl) ?_
      refine vl_light 4 [0, 1, 2, 3] rfl rfl rfl (by kernel_rfl) (by kernel_rfl) (by kernel_rfl) (by kernel_rfl) (by kernel_rfl) (wnt_none rfl) (lt_move_pv rfl) ?_
      refine vl_light 5 [0, 1, 2, 3, 4] rfl rfl rfl (by kernel_rfl) (by kernel_rfl) (by kernel_rfl) (by kernel_rfl) (by kernel_rfl) (wnt_none rfl) (lt_binI rfl rfl rfl sd) ?_
      refine vl_light 6 [0, 1, 2, 3, 4, 5] rfl rfl rfl (by kernel_rfl) (by kernel_rfl) (by kernel_rfl) (by kernel_rfl) (by kernel_rfl) (wnt_none rfl) (lt_slice_ref rfl rfl rfl rfl E32.und inf37 sz37 sd sd sd) ?_
      try simp only [Int.toNat_natCast, Int.toNat_zero]
      refine vl_one 7 rfl (by kernel_rfl) rfl ?_
      refine vo_append_del rfl (by omega) rfl rfl rfl sd sd sd sd E32.und inf37 sz37 ?_
      refine vo_stM ?_
      try simp only [app_ints, app_intss, app_bools, List.nil_append, app_pairs, ← List.map_take, ← List.map_drop, ← List.map_append]
      refine vo_unsub 27 rfl rfl sd ?_
      refine vo_stM ?_
      refine vo_done ⟨rfl, ?_⟩
      refine vl_one 8 rfl (by kernel_rfl) rfl ?_
      refine vo_assign_ref rfl rfl ?_
      refine vo_done ⟨rfl, ?_⟩
      refine vl_nil (by kernel_rfl) ?_
      refine hK6 _ ?_
      refine vc_expose 1 (by omega) rfl ?_
      refine vc_stM ?_
      refine vc_ret ?_
      change retQ _ _ _ _ _
      refine retQ_sel [] (srows := []) (.inr rfl) hC rfl rfl rfl rfl rfl rfl rfl ?_
      unfold chg; rw [if_pos hg1, if_pos hc2]; exact ⟨_, rfl, rfl⟩
    · try simp only [decide_eq_true_eq, decide_eq_false_iff_not, beq_iff_eq, bne_iff_ne, beq_eq_false_iff_ne, bne_eq_false_iff_eq, Bool.not_eq_true, Bool.not_eq_false, Bool.not_eq_eq_eq_not, Bool.not_true, Bool.not_false, List.length_map, Int.not_lt, Int.not_le, ne_eq, Decidable.not_not] at hc2
      refine vc_skip ?_
      refine hK4 _ ?_
      refine vc_seq fun K7 hK7 => ?_
      refine vc_seq fun K8 hK8 => ?_
      refine vc_region ?_
      refine vo_fieldAddr_ptr rfl rfl Try.underlying46 rfl inf4 (by rw [sz4]; decide) ?_
      try simp only [Nat.zero_add]
      refine vo_load_var rfl rfl rfl Try.underlying4 rfl rfl ?_
      refine vo_nil ?_
      refine hK8 _ ?_
      refine vc_cond rfl (fun hc3 => ?_) (fun hc3 => ?_)
      · try simp only [decide_eq_true_eq, decide_eq_false_iff_not, beq_iff_eq, bne_iff_ne, beq_eq_false_iff_ne, bne_eq_false_iff_eq, Bool.not_eq_true, Bool.not_eq_false, Bool.not_eq_eq_eq_not, Bool.not_true, Bool.not_false, List.length_map, Int.not_lt, Int.not_le, ne_eq, Decidable.not_not] at hc3
        refine vc_seq fun K9 hK9 => ?_
        refine vc_region ?_
        refine vo_move_ref rfl rfl ?_
        refine vo_assign_ref rfl rfl ?_
        refine vo_nil ?_
        refine hK9 _ ?_
        refine vc_expose 1 (by omega) rfl ?_
        refine vc_stM ?_
        refine vc_ret ?_
        change retQ _ _ _ _ _
        refine retQ_sel [] (srows := []) (.inr rfl) hC rfl rfl rfl rfl rfl rfl rfl ?_
        unfold chg; rw [if_pos hg1, if_neg (by omega)]; exact ⟨_, rfl, rfl⟩
      · try simp only [decide_eq_true_eq, decide_eq_false_iff_not, beq_iff_eq, bne_iff_ne, beq_eq_false_iff_ne, bne_eq_false_iff_eq, Bool.not_eq_true, Bool.not_eq_false, Bool.not_eq_eq_eq_not, Bool.not_true, Bool.not_false, List.length_map, Int.not_lt, Int.not_le, ne_eq, Decidable.not_not] at hc3
        refine vc_skip ?_
        refine hK7 _ ?_
        refine vc_seq fun K10 hK10 => ?_
        refine vc_seq fun K11 hK11 => ?_
        refine vc_region ?_
        refine vo_move_pv rfl rfl ?_
        refine vo_binI rfl rfl rfl rfl trivial ?_
        refine vo_nil ?_
        refine hK11 _ ?_
        refine vc_cond rfl (fun hc4 => ?_) (fun hc4 => ?_)
        · try simp only [decide_eq_true_eq, decide_eq_false_iff_not, beq_iff_eq, bne_iff_ne, beq_eq_false_iff_ne, bne_eq_false_iff_eq, Bool.not_eq_true, Bool.not_eq_false, Bool.not_eq_eq_eq_not, Bool.not_true, Bool.not_false, List.length_map, Int.not_lt, Int.not_le, ne_eq, Decidable.not_not] at hc4
          have hlt := findM_lt hc4
          refine vc_seq fun K12 hK12 => ?_
          refine vc_region ?_
          refine vo_move_ref rfl rfl ?_
          refine vo_move_pv rfl rfl ?_
          refine vo_fieldAddr_ptr rfl rfl Try.underlying46 rfl inf3 (by rw [sz3]; decide) ?_
          try simp only [Nat.zero_add]
          refine vo_load_var rfl rfl rfl Try.underlying3 rfl rfl ?_
          refine vo_index_ref rfl rfl rfl rfl E32.und inf37 sz37 sd sd ?_
          try simp only [Int.toNat_natCast]
          refine vo_fieldAddr_ptr rfl rfl Try.underlying37 rfl inf3 (by rw [sz3]; decide) ?_
          try simp only [Nat.zero_add]
          refine vo_store_ownC rfl rfl rfl rfl inf3 sz3 (getE_pairs (by omega)) rfl ?_
          try simp only [List.set_cons_zero, List.set_cons_succ, Int.toNat_natCast, Int.toNat_zero, set_pair1]
          refine vo_stM ?_
          refine vo_nil ?_
          refine hK12 _ ?_
          refine vc_seq fun K13 hK13 => ?_
          refine vc_region ?_
          refine vo_move_ref rfl rfl ?_
          refine vo_assign_ref rfl rfl ?_
          refine vo_nil ?_
          refine hK13 _ ?_
          refine vc_expose 1 (by omega) rfl ?_
          refine vc_stM ?_
          refine vc_ret ?_
          change retQ _ _ _ _ _
          refine retQ_sel [] (srows := []) (.inr rfl) hC rfl rfl rfl rfl rfl rfl rfl ?_
          first
            | (exfalso; rw [hg1] at hc3; cases hc3; done)
            | (exfalso; rw [hg1] at hc5; cases hc5; done)
            | (unfold chg; rw [if_neg (by simp [hg1]), if_pos (by assumption), ← set_pair1]; exact ⟨_, rfl, rfl⟩)
            | (unfold chg; rw [if_neg (by simp [hg1]), if_neg (by omega)]; exact ⟨_, rfl, rfl⟩)
        · try simp only [decide_eq_true_eq, decide_eq_false_iff_not, beq_iff_eq, bne_iff_ne, beq_eq_false_iff_ne, bne_eq_false_iff_eq, Bool.not_eq_true, Bool.not_eq_false, Bool.not_eq_eq_eq_not, Bool.not_true, Bool.not_false, List.length_map, Int.not_lt, Int.not_le, ne_eq, Decidable.not_not] at hc4
          refine vc_skip ?_
          refine hK10 _ ?_
          refine vc_seq fun K14 hK14 => ?_
          refine vc_region ?_
          refine vo_move_ref rfl rfl ?_
          refine vo_fieldAddr_ptr rfl rfl Try.underlying46 rfl inf3 (by rw [sz3]; decide) ?_
          try simp only [Nat.zero_add]
          refine vo_load_var rfl rfl rfl Try.underlying3 rfl rfl ?_
          refine vo_fieldAddr_ptr rfl rfl Try.underlying46 rfl inf3 (by rw [sz3]; decide) ?_
          try simp only [Nat.zero_add]
          refine vo_load_var rfl rfl rfl Try.underlying3 rfl rfl ?_
          refine vo_build S37 rfl rfl rfl ?_
          refine vo_stM ?_
          refine vo_buildSlice E32 rfl rfl rfl rfl rfl ?_
          refine vo_stM ?_
          refine vo_append E32 rfl (by omega) rfl rfl rfl sd sd ?_
          refine vo_stM ?_
          try simp only [app_ints, app_intss, app_bools, List.nil_append, app_pairs, ← List.map_take, ← List.map_drop, ← List.map_append]
          refine vo_assign_ref rfl rfl ?_
          refine vo_nil ?_
          refine hK14 _ ?_
          refine vc_expose 1 (by omega) rfl ?_
          refine vc_stM ?_
          refine vc_ret ?_
          change retQ _ _ _ _ _
          refine retQ_sel [] (srows := []) (.inr rfl) hC rfl rfl rfl rfl rfl rfl rfl ?_
          first
            | (exfalso; rw [hg1] at hc3; cases hc3; done)
            | (exfalso; rw [hg1] at hc5; cases hc5; done)
            | (unfold chg; rw [if_neg (by simp [hg1]), if_pos (by assumption), ← set_pair1]; exact ⟨_, rfl, rfl⟩)
            | (unfold chg; rw [if_neg (by simp [hg1]), if_neg (by omega)]; exact ⟨_, rfl, rfl⟩)
  · try simp only [decide_eq_true_eq, decide_eq_false_iff_not, beq_iff_eq, bne_iff_ne, beq_eq_false_iff_ne, bne_eq_false_iff_eq, Bool.not_eq_true, Bool.not_eq_false, Bool.not_eq_eq_eq_not, Bool.not_true, Bool.not_false, List.length_map, Int.not_lt, Int.not_le, ne_eq, Decidable.not_not] at hg1
    refine vo_guard_off rfl rfl rfl rfl rfl ?_
    refine vo_guard_off rfl rfl rfl rfl rfl ?_
    refine vo_pick_f rfl rfl ?_
    refine vo_nil ?_
    refine hK5 _ ?_
    refine vc_cond_f rfl ?_
    refine vc_skip ?_
    refine hK4 _ ?_
    refine vc_seq fun K15 hK15 => ?_
    refine vc_seq fun K16 hK16 => ?_
    refine vc_region ?_
    refine vo_fieldAddr_ptr rfl rfl Try.underlying46 rfl inf4 (by rw [sz4]; decide) ?_
    try simp only [Nat.zero_add]
    refine vo_load_var rfl rfl rfl Try.underlying4 rfl rfl ?_
    refine vo_nil ?_
    refine hK16 _ ?_
    refine vc_cond rfl (fun hc5 => ?_) (fun hc5 => ?_)
    · try simp only [decide_eq_true_eq, decide_eq_false_iff_not, beq_iff_eq, bne_iff_ne, beq_eq_false_iff_ne, bne_eq_false_iff_eq, Bool.not_eq_true, Bool.not_eq_false, Bool.not_eq_eq_eq_not, Bool.not_true, Bool.not_false, List.length_map, Int.not_lt, Int.not_le, ne_eq, Decidable.not_not] at hc5
      refine vc_seq fun K17 hK17 => ?_
      refine vc_region ?_
      refine vo_move_ref rfl rfl ?_
      refine vo_assign_ref rfl rfl ?_
      refine vo_nil ?_
      refine hK17 _ ?_
      refine vc_expose 1 (by omega) rfl ?_
      refine vc_stM ?_
      refine vc_ret ?_
      change retQ _ _ _ _ _
      refine retQ_sel [] (srows := []) (.inr rfl) hC rfl rfl rfl rfl rfl rfl rfl ?_
      first
        | (exfalso; rw [hg1] at hc3; cases hc3; done)
        | (exfalso; rw [hg1] at hc5; cases hc5; done)
        | (unfold chg; rw [if_neg (by simp [hg1]), if_pos (by assumption), ← set_pair1]; exact ⟨_, rfl, rfl⟩)
        | (unfold chg; rw [if_neg (by simp [hg1]), if_neg (by omega)]; exact ⟨_, rfl, rfl⟩)
    · try simp only [decide_eq_true_eq, decide_eq_false_iff_not, beq_iff_eq, bne_iff_ne, beq_eq_false_iff_ne, bne_eq_false_iff_eq, Bool.not_eq_true, Bool.not_eq_false, Bool.not_eq_eq_eq_not, Bool.not_true, Bool.not_false, List.length_map, Int.not_lt, Int.not_le, ne_eq, Decidable.not_not] at hc5
      refine vc_skip ?_
      refine hK15 _ ?_
      refine vc_seq fun K18 hK18 => ?_
      refine vc_seq fun K19 hK19 => ?_
      refine vc_region ?_
      refine vo_move_pv rfl rfl ?_
      refine vo_binI rfl rfl rfl rfl trivial ?_
      refine vo_nil ?_
      refine hK19 _ ?_
      refine vc_cond rfl (fun hc6 => ?_) (fun hc6 => ?_)
      · try simp only [decide_eq_true_eq, decide_eq_false_iff_not, beq_iff_eq, bne_iff_ne, beq_eq_false_iff_ne, bne_eq_false_iff_eq, Bool.not_eq_true, Bool.not_eq_false, Bool.not_eq_eq_eq_not, Bool.not_true, Bool.not_false, List.length_map, Int.not_lt, Int.not_le, ne_eq, Decidable.not_not] at hc6
        have hlt := findM_lt hc6
        refine vc_seq fun K20 hK20 => ?_
        refine vc_region ?_
        refine vo_move_ref rfl rfl ?_
        refine vo_move_pv rfl rfl ?_
        refine vo_fieldAddr_ptr rfl rfl Try.underlying46 rfl inf3 (by rw [sz3]; decide) ?_
        try simp only [Nat.zero_add]
        refine vo_load_var rfl rfl rfl Try.underlying3 rfl rfl ?_
        refine vo_index_ref rfl rfl rfl rfl E32.und inf37 sz37 sd sd ?_
        try simp only [Int.toNat_natCast]
        refine vo_fieldAddr_ptr rfl rfl Try.underlying37 rfl inf3 (by rw [sz3]; decide) ?_
        try simp only [Nat.zero_add]
        refine vo_store_ownC rfl rfl rfl rfl inf3 sz3 (getE_pairs (by omega)) rfl ?_
        try simp only [List.set_cons_zero, List.set_cons_succ, Int.toNat_natCast, Int.toNat_zero, set_pair1]
        refine vo_stM ?_
        refine vo_nil ?_
        refine hK20 _ ?_
        refine vc_seq fun K21 hK21 => ?_
        refine vc_region ?_
        refine vo_move_ref rfl rfl ?_
        refine vo_assign_ref rfl rfl ?_
        refine vo_nil ?_
        refine hK21 _ ?_
        refine vc_expose 1 (by omega) rfl ?_
        refine vc_stM ?_
        refine vc_ret ?_
        change retQ _ _ _ _ _
        refine retQ_sel [] (srows := []) (.inr rfl) hC rfl rfl rfl rfl rfl rfl rfl ?_
        first
          | (exfalso; rw [hg1] at hc3; cases hc3; done)
          | (exfalso; rw [hg1] at hc5; cases hc5; done)
          | (unfold chg; rw [if_neg (by simp [hg1]), if_pos (by assumption), ← set_pair1]; exact ⟨_, rfl, rfl⟩)
          | (unfold chg; rw [if_neg (by simp [hg1]), if_neg (by omega)]; exact ⟨_, rfl, rfl⟩)
      · try simp only [decide_eq_true_eq, decide_eq_false_iff_not, beq_iff_eq, bne_iff_ne, beq_eq_false_iff_ne, bne_eq_false_iff_eq, Bool.not_eq_true, Bool.not_eq_false, Bool.not_eq_eq_eq_not, Bool.not_true, Bool.not_false, List.length_map, Int.not_lt, Int.not_le, ne_eq, Decidable.not_not] at hc6
        refine vc_skip ?_
        refine hK18 _ ?_
        refine vc_seq fun K22 hK22 => ?_
        refine vc_region ?_
        refine vo_move_ref rfl rfl ?_
        refine vo_fieldAddr_ptr rfl rfl Try.underlying46 rfl inf3 (by rw [sz3]; decide) ?_
        try simp only [Nat.zero_add]
        refine vo_load_var rfl rfl rfl Try.underlying3 rfl rfl ?_
        refine vo_fieldAddr_ptr rfl rfl Try.underlying46 rfl inf3 (by rw [sz3]; decide) ?_
        try simp only [Nat.zero_add]
        refine vo_load_var rfl rfl rfl Try.underlying3 rfl rfl ?_
        refine vo_build S37 rfl rfl rfl ?_
        refine vo_stM ?_
        refine vo_buildSlice E32 rfl rfl rfl rfl rfl ?_
        refine vo_stM ?_
        refine vo_append E32 rfl (by omega) rfl rfl rfl sd sd ?_
        refine vo_stM ?_
        try simp only [app_ints, app_intss, app_bools, List.nil_append, app_pairs, ← List.map_take, ← List.map_drop, ← List.map_append]
        refine vo_assign_ref rfl rfl ?_
        refine vo_nil ?_
        refine hK22 _ ?_
        refine vc_expose 1 (by omega) rfl ?_
        refine vc_stM ?_
        refine vc_ret ?_
        change retQ _ _ _ _ _
        refine retQ_sel [] (srows := []) (.inr rfl) hC rfl rfl rfl rfl rfl rfl rfl ?_
        first
          | (exfalso; rw [hg1] at hc3; cases hc3; done)
          | (exfalso; rw [hg1] at hc5; cases hc5; done)
          | (unfold chg; rw [if_neg (by simp [hg1]), if_pos (by assumption), ← set_pair1]; exact ⟨_, rfl, rfl⟩)
          | (unfold chg; rw [if_neg (by simp [hg1]), if_neg (by omega)]; exact ⟨_, rfl, rfl⟩)


theorem specPlainPairs_sat {nl0 : Option Bool} {list : List OpM} {who : Int} (hlist : list.length < 1000000000)  : SatAt Try.prog 30 [.pv false (.sl nl0 4 (list.map opP)), i64 who] [] (fun res rows => ∃ nl, res = [.pv true (.sl nl 2 ((plp list who).map pairP))] ∧ rows = []) := by
  refine sat_entry_G (rs := [(4, none)]) Try.func30 rfl rfl (Nat.le_of_ble_eq_true rfl) (Nat.le_of_ble_eq_true rfl) (resTs1 trivial) fun C hC => ?_
  rw [Try.ntmps30]
  replace hC : C.nb = 0 := hC
  refine vc_seq fun K1 hK1 => ?_
  refine vc_region ?_
  refine vo_assign_pv rfl rfl ?_
  refine vo_own_nil 4 E32 rfl ?_
  refine vo_nil ?_
  refine hK1 _ ?_
  refine vc_seq fun K2 hK2 => ?_
  refine vc_seq fun K3 hK3 => ?_
  refine vc_region ?_
  refine vo_move_pv rfl rfl ?_
  refine vo_call0 Try.func55 rfl rfl rfl rfl (specValidOps0_sat hlist) ?_
  rintro _ _ ⟨rfl, rfl⟩
  refine ⟨rfl, rfl, .inl rfl, ?_⟩
  refine vo_stM ?_
  refine vo_not rfl rfl ?_
  refine vo_move_pv rfl rfl ?_
  refine vo_split 10 rfl (fun hg1 => ?_) (fun hg1 => ?_)
  · try simp only [decide_eq_true_eq, decide_eq_false_iff_not, beq_iff_eq, bne_iff_ne, beq_eq_false_iff_ne, bne_eq_false_iff_eq, Bool.not_eq_true, Bool.not_eq_false, Bool.not_eq_eq_eq_not, Bool.not_true, Bool.not_false, List.length_map, Int.not_lt, Int.not_le, ne_eq, Decidable.not_not] at hg1
    refine vo_guard_off rfl rfl rfl rfl rfl ?_
    refine vo_guard_off rfl rfl rfl rfl rfl ?_
    refine vo_guard_off rfl rfl rfl rfl rfl ?_
    refine vo_pick_t rfl rfl ?_
    refine vo_nil ?_
    refine hK3 _ ?_
    refine vc_cond_t rfl ?_
    refine vc_seq fun K4 hK4 => ?_
    refine vc_region ?_
    refine vo_assign_pv rfl rfl ?_
    refine vo_own_nil 4 E32 rfl ?_
    refine vo_nil ?_
    refine hK4 _ ?_
    refine vc_expose 1 (by omega) rfl ?_
    refine vc_stM ?_
    refine vc_ret ?_
    change retQ _ _ _ _ _
    refine retQ_sel [] (srows := []) (.inr rfl) hC rfl rfl rfl rfl rfl rfl rfl ?_
    have e : plp list who = [] := by unfold plp; rw [if_neg (fun h0 => absurd h0.1 (by assumption))]
    rw [e]; exact ⟨_, rfl, rfl⟩
  · try simp only [decide_eq_true_eq, decide_eq_false_iff_not, beq_iff_eq, bne_iff_ne, beq_eq_false_iff_ne, bne_eq_false_iff_eq, Bool.not_eq_true, Bool.not_eq_false, Bool.not_eq_eq_eq_not, Bool.not_true, Bool.not_false, List.length_map, Int.not_lt, Int.not_le, ne_eq, Decidable.not_not] at hg1
    refine vo_guard_on rfl rfl rfl ?_
    refine vo_move_pv rfl rfl ?_
    refine vo_guard_on rfl rfl rfl ?_
    refine vo_call0 Try.func69 rfl rfl rfl rfl inRange_sat ?_
    rintro _ _ ⟨rfl, rfl⟩
    refine ⟨rfl, rfl, .inl rfl, ?_⟩
    refine vo_stM ?_
    refine vo_guard_on rfl rfl rfl ?_
    refine vo_not rfl rfl ?_
    refine vo_pick_f rfl rfl ?_
    refine vo_nil ?_
    refine hK3 _ ?_
    refine vc_cond rfl (fun hc2 => ?_) (fun hc2 => ?_)
    · try simp only [decide_eq_true_eq, decide_eq_false_iff_not, beq_iff_eq, bne_iff_ne, beq_eq_false_iff_ne, bne_eq_false_iff_eq, Bool.not_eq_true, Bool.not_eq_false, Bool.not_eq_eq_eq_not, Bool.not_true, Bool.not_false, List.length_map, Int.not_lt, Int.not_le, ne_eq, Decidable.not_not] at hc2
      refine vc_seq fun K5 hK5 => ?_
      refine vc_region ?_
      refine vo_assign_pv rfl rfl ?_
      refine vo_own_nil 4 E32 rfl ?_
      refine vo_nil ?_
      refine hK5 _ ?_
      refine vc_expose 1 (by omega) rfl ?_
      refine vc_stM ?_
      refine vc_ret ?_
      change retQ _ _ _ _ _
      refine retQ_sel [] (srows := []) (.inr rfl) hC rfl rfl rfl rfl rfl rfl rfl ?_
      have e : plp list who = [] := by unfold plp; rw [if_neg (fun h0 => absurd h0.2 (by assumption))]
      rw [e]; exact ⟨_, rfl, rfl⟩
    · try simp only [decide_eq_true_eq, decide_eq_false_iff_not, beq_iff_eq, bne_iff_ne, beq_eq_false_iff_ne, bne_eq_false_iff_eq, Bool.not_eq_true, Bool.not_eq_false, Bool.not_eq_eq_eq_not, Bool.not_true, Bool.not_false, List.length_map, Int.not_lt, Int.not_le, ne_eq, Decidable.not_not] at hc2
      refine vc_skip ?_
      refine hK2 _ ?_
      refine vc_seq fun K6 hK6 => ?_
      refine vc_region ?_
      refine vo_buildSlice E32 rfl rfl rfl rfl rfl ?_
      refine vo_stM ?_
      refine vo_assign_ref rfl rfl ?_
      refine vo_nil ?_
      refine hK6 _ ?_
      refine vc_seq fun K7 hK7 => ?_
      refine vc_seq fun K8 hK8 => ?_
      refine vc_region ?_
      refine vo_assign_pv rfl rfl ?_
      refine vo_nil ?_
      refine hK8 _ ?_
      refine vc_block ?_
      refine vc_expose 1 (by omega) rfl ?_
      refine vc_stM ?_
      refine vc_weaken 5 rfl ?_
      refine vc_stM ?_
      refine vc_stM ?_
      refine vc_loopE [0, 1] [5, 6] [] _ _ (fun mz vs rs => ∃ (k : Nat), mz = list.length - k ∧ (k ≤ list.length) ∧ vs = [.pv true (.sl none 2 ((plpK list who k).map pairP)), i64 k] ∧ rs = []) (list.length) rfl rfl (le_len hC rfl) ⟨rfl, rfl, rfl⟩ rfl ⟨0, rfl, Nat.zero_le _, rfl, rfl⟩ ?_
      rintro mz vs rs - - ⟨k, rfl, hk, rfl, rfl⟩
      refine vc_stM ?_
      have hpl := plpK_len (list := list) (who := who) k hk
      have hvo := hg1.1
      refine vc_seq fun K9 hK9 => ?_
      refine vc_seq fun K10 hK10 => ?_
      refine vc_region ?_
      refine vo_move_pv rfl rfl ?_
      refine vo_move_pv rfl rfl ?_
      refine vo_len_pv rfl rfl Try.underlying23 ?_
      refine vo_binI rfl rfl rfl rfl trivial ?_
      refine vo_nil ?_
      refine hK10 _ ?_
      refine vc_cond rfl (fun hc3 => ?_) (fun hc3 => ?_)
      · try simp only [decide_eq_true_eq, decide_eq_false_iff_not, beq_iff_eq, bne_iff_ne, beq_eq_false_iff_ne, bne_eq_false_iff_eq, Bool.not_eq_true, Bool.not_eq_false, Bool.not_eq_eq_eq_not, Bool.not_true, Bool.not_false, List.length_map, Int.not_lt, Int.not_le, ne_eq, Decidable.not_not] at hc3
        refine vc_skip ?_
        refine hK9 _ ?_
        refine vc_seq fun K11 hK11 => ?_
        refine vc_block ?_
        refine vc_seq fun K12 hK12 => ?_
        refine vc_region ?_
        refine vo_move_pv rfl rfl ?_
        refine vo_move_pv rfl rfl ?_
        refine vo_index_pv (.agg [(.int .i64 0), (.int .i64 0), (.int .i64 0), (.bool false)]) rfl rfl rfl E23.und inf46 sz46 sd sd ?_
        simp only [Int.toNat_natCast, Int.toNat_zero, getD_ints, getD_intss, getD_bools, getD_bytes, PV.cells, getD_ops, getD_pairs, getD_insts]
        refine vo_fieldAddr_adr rfl rfl Try.underlying46 rfl inf3 (by rw [sz3]; decide) ?_
        refine vo_load_adr rfl rfl Try.underlying3 rfl ?_
        refine vo_move_pv rfl rfl ?_
        refine vo_binI rfl rfl rfl rfl trivial ?_
        refine vo_nil ?_
        refine hK12 _ ?_
        refine vc_cond rfl (fun hc4 => ?_) (fun hc4 => ?_)
        · try simp only [decide_eq_true_eq, decide_eq_false_iff_not, beq_iff_eq, bne_iff_ne, beq_eq_false_iff_ne, bne_eq_false_iff_eq, Bool.not_eq_true, Bool.not_eq_false, Bool.not_eq_eq_eq_not, Bool.not_true, Bool.not_false, List.length_map, Int.not_lt, Int.not_le, ne_eq, Decidable.not_not] at hc4
          refine vc_region ?_
          refine vo_move_pv rfl rfl ?_
          refine vo_move_pv rfl rfl ?_
          refine vo_move_pv rfl rfl ?_
          refine vo_index_pv (.agg [(.int .i64 0), (.int .i64 0), (.int .i64 0), (.bool false)]) rfl rfl rfl E23.und inf46 sz46 sd sd ?_
          simp only [Int.toNat_natCast, Int.toNat_zero, getD_ints, getD_intss, getD_bools, getD_bytes, PV.cells, getD_ops, getD_pairs, getD_insts]
          refine vo_load_adrS rfl rfl Try.underlying46 rfl inf46 sz46 rfl ?_
          refine vo_st (by (try simp only [St.put, PV.cells, PV.scal, List.drop_succ_cons, List.drop_zero, List.take_succ_cons, List.take_zero, List.map_cons, List.map_nil, Bool.or_true, Bool.or_false, Bool.false_or, Bool.true_or, opP, pairP, instP, heapP]); exact eq_refl _) ?_
          refine vo_call0 Try.func70 rfl rfl rfl rfl (change_sat (by omega)) ?_
          rintro _ _ ⟨nl9, rfl, rfl⟩
          refine ⟨rfl, rfl, .inl rfl, ?_⟩
          refine vo_stM ?_
          refine vo_weaken 34 rfl ?_
          refine vo_stM ?_
          refine vo_assign_pv rfl rfl ?_
          refine vo_nil ?_
          refine hK11 _ ?_
          refine vc_region ?_
          refine vo_move_pv rfl rfl ?_
          refine vo_binI rfl rfl rfl rfl sd ?_
          refine vo_assign_pv rfl rfl ?_
          refine vo_nil ?_
          change againE _ _ _ _ _ _ _ _ _ _
          refine againE_mk rfl rfl rfl rfl rfl rfl ⟨_, ?_, k + 1, rfl, ?_, (by rw [plpK_yes (by omega) (by assumption)]; rfl), rfl⟩
          · omega
          · omega
        · try simp only [decide_eq_true_eq, decide_eq_false_iff_not, beq_iff_eq, bne_iff_ne, beq_eq_false_iff_ne, bne_eq_false_iff_eq, Bool.not_eq_true, Bool.not_eq_false, Bool.not_eq_eq_eq_not, Bool.not_true, Bool.not_false, List.length_map, Int.not_lt, Int.not_le, ne_eq, Decidable.not_not] at hc4
          refine vc_skip ?_
          refine hK11 _ ?_
          refine vc_region ?_
          refine vo_move_pv rfl rfl ?_
          refine vo_binI rfl rfl rfl rfl sd ?_
          refine vo_assign_pv rfl rfl ?_
          refine vo_nil ?_
          change againE _ _ _ _ _ _ _ _ _ _
          refine againE_mk rfl rfl rfl rfl rfl rfl ⟨_, ?_, k + 1, rfl, ?_, (by rw [plpK_no (by omega) (by assumption)]; rfl), rfl⟩
          · omega
          · omega
      · try simp only [decide_eq_true_eq, decide_eq_false_iff_not, beq_iff_eq, bne_iff_ne, beq_eq_false_iff_ne, bne_eq_false_iff_eq, Bool.not_eq_true, Bool.not_eq_false, Bool.not_eq_eq_eq_not, Bool.not_true, Bool.not_false, List.length_map, Int.not_lt, Int.not_le, ne_eq, Decidable.not_not] at hc3
        refine vc_exit ?_
        refine hK7 _ ?_
        refine vc_seq fun K13 hK13 => ?_
        refine vc_region ?_
        refine vo_move_pv rfl rfl ?_
        refine vo_assign_pv rfl rfl ?_
        refine vo_nil ?_
        refine hK13 _ ?_
        refine vc_ret ?_
        change retQ _ _ _ _ _
        refine retQ_sel [] (srows := []) (.inr rfl) hC rfl rfl rfl rfl rfl rfl rfl ?_
        have e : plp list who = plpK list who k := by unfold plp; rw [if_pos ⟨hg1, hc2⟩, show k = list.length by omega]
        rw [e]; exact ⟨_, rfl, rfl⟩

end Go.Vl


/- A cell of a variable that holds a nil slice holds a row of the call's own that is empty. -/
namespace Go.Vl
set_option linter.unusedVariables false
set_option linter.unusedSimpArgs false
open Go.RowKit
section
variable {P : Program} {C : Ctx} {Q : Go.Exit → St → Prop} {s : St} {ops : Array Oper}

theorem SimM.ownCell {m : Nat → MV} {a : Act} {w : World} (hs : SimM C s m a w) (id k : Nat) {el e e0 t' : Nat} {f : Bool} {cs : List SV}
    (hrow : s.rows[id]? = some (.var t' cs)) (hk : cs[k]? = some (.pv f (.sl (some true) e0 []))) :
    ∃ m', SimM C ⟨s.n, s.env, (s.rows ++ [Row.own el e none true []]).set id (.var t' (cs.set k (.ref s.rows.length)))⟩ m' a w := by
  have hadd := hs.addRow (w' := w) ⟨rfl, rfl, rfl, Nat.le_refl _, fun _ _ _ => rfl⟩ (.own el e none true []) (.of <| .slice none 0 0)
    (fun b hb => by simp [MV.of, blk] at hb) (fun hG => .own _ el e _ true [] [] (World.ownsRow_nil w 0 el e) (fun h => by cases h) (fun h => by cases h) (fun i x hx => by simp at hx) (fun i x j c hx => by simp at hx))
  have hid : id < s.rows.length := (List.getElem?_eq_some_iff.1 hrow).1
  have hrow' : (s.rows ++ [Row.own el e none true []])[id]? = some (.var t' cs) := by rw [List.getElem?_append_left hid]; exact hrow
  have h1 := hadd.1
  refine ⟨_, h1.storeRow (w' := w) (id := id) ⟨_, hrow', rfl⟩ (bo := none) (fun _ e => by cases e) ⟨rfl, rfl, rfl, Nat.le_refl _, fun _ _ _ => rfl⟩ _ (fun hG => ?_)⟩
  have hR := h1.rows id _ hrow'
  have hme : updM m s.rows.length (.of (.slice none 0 0)) s.rows.length = .of (.slice none 0 0) := updM_same ..
  generalize updM m s.rows.length (.of (.slice none 0 0)) = m2 at *
  generalize hmv : m2 id = v at *
  cases hR with
  | var b t cs cur hb hl hr ho =>
    refine .var b _ _ cur hb (by simpa using hl) (fun j c u hc hu => ?_) ho
    rw [List.getElem?_set] at hc
    split at hc
    · rename_i hkj
      subst hkj
      split at hc
      · cases hc
        have hold := (hr k _ u hk hu).pv_inv
        have : u = .slice none 0 0 := by
          cases hold with
          | nilsl => rfl
          | sl nl e xs a len cap f h => exact (h rfl).elim
        subst this
        have := RS.ref (w := w) (G := Gd C ((s.rows ++ [Row.own el e none true []]).set id (.var t' (cs.set k (.ref s.rows.length)))) m2 w) (m := m2) (N := (s.rows ++ [Row.own el e none true []]).length) s.rows.length (by simp)
        rw [hme] at this
        exact this
      · cases hc
    · exact (hr j c u hc hu).mono (fun fr b h => hG fr b h) (by simp) (fun _ _ => rfl)

theorem vc_own_cell {code : Code} (id k : Nat) {T el e by' e0 t' : Nat} {d : PV} {f : Bool} {cs : List SV} (_hI : ElInfo P T el e by' d)
    (hrow : s.rows[id]? = some (.var t' cs)) (hk : cs[k]? = some (.pv f (.sl (some true) e0 [])))
    (next : VC P C code Q ⟨s.n, s.env, (s.rows ++ [Row.own el e none true []]).set id (.var t' (cs.set k (.ref s.rows.length)))⟩) : VC P C code Q s := by
  intro a w ⟨m, hs⟩
  obtain ⟨m', h⟩ := hs.ownCell id k hrow hk
  exact next a w ⟨m', h⟩
end
end Go.Vl


/- 'append' of a part of one row to another. -/
namespace Go.Vl
set_option linter.unusedVariables false
set_option linter.unusedSimpArgs false
open Go.RowKit
section
variable {P : Program} {C : Ctx} {Q : Go.Exit → St → Prop} {s : St}
variable {ops : Array Oper} {rest : List Oper} {t : Nat} {ty : TypeId} {pos : String} {af : Array Edge}

end
end Go.Vl


namespace Go.Vl
set_option linter.unusedVariables false
set_option linter.unusedSimpArgs false
open Go.Proofs

theorem findM_cons (n x : Int) (l : List Int) (k : Int) : findM n (x :: l) k = if x = n then k else findM n l (k+1) := rfl
/-- Where names differ, each is found at its place. -/
theorem findM_nd {N : List Int} (h : N.Nodup) : ∀ {q : Nat} {k : Int}, q < N.length → findM (N.getD q 0) N k = k + q := by
  induction N with
  | nil => intro q k hq; simp at hq
  | cons x xs ih =>
    intro q k hq
    have hn := List.nodup_cons.1 h
    cases q with
    | zero => simp [findM]
    | succ q =>
      have hq' : q < xs.length := by simpa using hq
      have hm : xs.getD q 0 ∈ xs := getD_mem hq' 0
      rw [List.getD_cons_succ, findM_cons, if_neg (fun e : x = xs.getD q 0 => hn.1 (by rw [e]; exact hm)), ih hn.2 hq']
      push_cast; omega
theorem findM_of {N : List Int} {n : Int} (h : 0 ≤ findM n N 0) : ∃ q : Nat, q < N.length ∧ findM n N 0 = q ∧ N.getD q 0 = n := by
  obtain ⟨i, h1, h2, h3, _⟩ := findM_pos_iff (n := n) (l := N) (k := 0) (by omega) h
  exact ⟨i, h1, by omega, h3⟩
/-- The places of names. -/
def plM (l : List (Int × Int)) : Int → Option Int := fun n => if 0 ≤ findM n (nms l) 0 then some (findM n (nms l) 0) else none
theorem plM_has (l : List (Int × Int)) (n : Int) : (plM l n).isSome = true ↔ 0 ≤ findM n (nms l) 0 := by
  unfold plM; split <;> simp_all
theorem plM_val {l : List (Int × Int)} {n : Int} (h : 0 ≤ findM n (nms l) 0) : (plM l n).getD 0 = findM n (nms l) 0 := by
  unfold plM; rw [if_pos h]; rfl
theorem plM_nil : plM [] = nilI := by funext n; simp [plM, nms, findM, nilI]
theorem findM_app {n y : Int} : ∀ {N : List Int} {k : Int}, 0 ≤ k → findM n (N ++ [y]) k = if 0 ≤ findM n N k then findM n N k else if y = n then k + N.length else -1
  | [], k, hk => by simp [findM]
  | x :: xs, k, hk => by
    rw [List.cons_append, findM_cons, findM_cons]
    by_cases hx : x = n
    · rw [if_pos hx, if_pos hx, if_pos hk]
    · rw [if_neg hx, if_neg hx, findM_app (by omega)]
      split
      · rfl
      · split
        · push_cast [List.length_cons]; omega
        · rfl
theorem plM_app {l : List (Int × Int)} {n v : Int} (h : findM n (nms l) 0 < 0) : plM (l ++ [(n, v)]) = updI (plM l) n ((l.map pairP).length : Nat) := by
  funext j
  have e : nms (l ++ [(n, v)]) = nms l ++ [n] := by simp [nms]
  show (if 0 ≤ findM j (nms (l ++ [(n, v)])) 0 then some (findM j (nms (l ++ [(n, v)])) 0) else none) = if j = n then some (((l.map pairP).length : Nat) : Int) else (if 0 ≤ findM j (nms l) 0 then some (findM j (nms l) 0) else none)
  rw [e, findM_app (by omega), nms_len, List.length_map]
  by_cases hj : j = n
  · subst hj
    rw [if_neg (by omega : ¬ 0 ≤ findM j (nms l) 0), if_pos rfl, if_pos rfl, if_pos (by omega)]; simp
  · rw [if_neg hj]
    by_cases h0 : 0 ≤ findM j (nms l) 0
    · rw [if_pos h0, if_pos h0]
    · rw [if_neg h0, if_neg (Ne.symm hj), if_neg h0, if_neg (by omega)]
theorem nms_set {l : List (Int × Int)} {i : Nat} {v : Int} (h : i < l.length) : nms (l.set i ((l.getD i (0, 0)).1, v)) = nms l := by
  unfold nms
  rw [List.map_set]
  apply List.ext_getElem?
  intro j
  rw [List.getElem?_set]
  split
  · rename_i hij
    subst hij
    rw [if_pos (by simpa using h)]
    simp [List.getD, List.getElem?_eq_getElem h]
  · rfl
theorem plM_set {l : List (Int × Int)} {i : Nat} {v : Int} (h : i < l.length) : plM (l.set i ((l.getD i (0, 0)).1, v)) = plM l := by
  unfold plM; rw [nms_set h]
def delP (l : List (Int × Int)) (n : Int) : List (Int × Int) := l.take ((plM l n).getD 0).toNat ++ l.drop ((plM l n).getD 0 + 1).toNat
def mpS (g : Int → Option Int) (l : List (Int × Int)) (p : Int) : Nat → Int → Option Int
  | 0 => g
  | k+1 => updI (mpS g l p k) (l.getD (p.toNat + k) (0, 0)).1 (p + k)
theorem mpS_eq {g : Int → Option Int} {l : List (Int × Int)} {p : Nat} (hn : (nms l).Nodup) : ∀ K, p + K ≤ l.length → ∀ j, mpS g l p K j = if (p : Int) ≤ findM j (nms l) 0 ∧ findM j (nms l) 0 < p + K then some (findM j (nms l) 0) else g j
  | 0, _, j => by
    rw [if_neg (by omega)]; rfl
  | K+1, hK, j => by
    have e : (l.getD ((p : Int).toNat + K) (0, 0)).1 = (nms l).getD (p + K) 0 := by rw [Int.toNat_natCast, getD_nms]
    have hf : findM ((nms l).getD (p + K) 0) (nms l) 0 = ((p + K : Nat) : Int) := by rw [findM_nd hn (by rw [nms_len]; omega)]; omega
    show updI (mpS g l p K) _ _ j = _
    unfold updI
    rw [e]
    by_cases hj : j = (nms l).getD (p + K) 0
    · rw [if_pos hj, hj, hf, if_pos (by omega)]; simp
    · rw [if_neg hj, mpS_eq hn K (by omega) j]
      have hne : findM j (nms l) 0 ≠ ((p + K : Nat) : Int) := fun h => by
        obtain ⟨q, h1, h2, h3⟩ := findM_of (n := j) (N := nms l) (by omega)
        have : q = p + K := by omega
        subst this
        exact hj h3.symm
      by_cases hc : (p : Int) ≤ findM j (nms l) 0 ∧ findM j (nms l) 0 < p + K
      · rw [if_pos hc, if_pos (by omega)]
      · rw [if_neg hc, if_neg (by omega)]
theorem nms_app (a b : List (Int × Int)) : nms (a ++ b) = nms a ++ nms b := by simp [nms]
theorem nms_drop (l : List (Int × Int)) (k : Nat) : nms (l.drop k) = (nms l).drop k := by simp [nms]
theorem delP_eq {l : List (Int × Int)} {n : Int} {i : Nat} (h : findM n (nms l) 0 = i) : delP l n = l.take i ++ l.drop (i + 1) := by
  unfold delP; rw [plM_val (by omega), h, Int.toNat_natCast, show ((i : Int) + 1).toNat = i + 1 by omega]
/-- The places behind a pair that is taken away. -/
theorem plM_del {l : List (Int × Int)} {n : Int} (hn : (nms l).Nodup) (h : 0 ≤ findM n (nms l) 0) {K : Nat} (hK : (delP l n).length = ((plM l n).getD 0).toNat + K) : mpS (delI (plM l) n) (delP l n) ((plM l n).getD 0) K = plM (delP l n) := by
  obtain ⟨i, hi, h1, h2⟩ := findM_of h
  rw [nms_len] at hi
  have e := delP_eq h1
  rw [plM_val h, h1] at hK ⊢
  rw [Int.toNat_natCast] at hK
  have hsplit : nms l = nms (l.take i) ++ n :: nms (l.drop (i + 1)) := by
    have hcd : (nms l).drop i = n :: (nms l).drop (i + 1) := by
      rw [List.drop_eq_getElem_cons (by rw [nms_len]; exact hi), ← h2]
      simp [List.getD, List.getElem?_eq_getElem (show i < (nms l).length by rw [nms_len]; exact hi)]
    rw [nms_drop, ← take_nms, ← hcd, List.take_append_drop]
  have hN : nms (delP l n) = nms (l.take i) ++ nms (l.drop (i + 1)) := by rw [e, nms_app]
  have hnd : (nms (l.take i) ++ n :: nms (l.drop (i + 1))).Nodup := hsplit ▸ hn
  have hp := (List.perm_middle (a := n) (l₁ := nms (l.take i)) (l₂ := nms (l.drop (i + 1)))).nodup_iff.1 hnd
  have hd := List.nodup_cons.1 hp
  have hn1 : (nms (delP l n)).Nodup := by rw [hN]; exact hd.2
  funext j
  rw [mpS_eq hn1 K (by omega) j]
  by_cases hj0 : 0 ≤ findM j (nms (delP l n)) 0
  · obtain ⟨q, hq, g1, g2⟩ := findM_of hj0
    rw [nms_len] at hq
    have hpl : plM (delP l n) j = some (findM j (nms (delP l n)) 0) := by unfold plM; rw [if_pos hj0]
    by_cases hqi : i ≤ q
    · rw [if_pos (by omega), hpl]
    · rw [if_neg (by omega), hpl, g1]
      have hmm : (nms (delP l n)).getD q 0 ∈ nms (delP l n) := getD_mem (by rw [nms_len]; exact hq) 0
      have hjn : j ≠ n := fun e2 => hd.1 (by rw [← hN]; rw [g2, e2] at hmm; exact hmm)
      have hq2 : (nms l).getD q 0 = j := by
        rw [← g2, hN, hsplit]
        have hlt : q < (nms (l.take i)).length := by rw [nms_len, List.length_take]; omega
        rw [List.getD_eq_getElem?_getD, List.getD_eq_getElem?_getD, List.getElem?_append_left hlt, List.getElem?_append_left hlt]
      have hfl : findM j (nms l) 0 = q := by rw [← hq2, findM_nd hn (by rw [nms_len]; omega)]; omega
      unfold delI plM
      rw [if_neg hjn, hfl, if_pos (by omega)]
  · rw [if_neg (by omega)]
    have hpl : plM (delP l n) j = none := by unfold plM; rw [if_neg hj0]
    rw [hpl]
    unfold delI
    split
    · rfl
    · rename_i hjn
      have hjN : j ∉ nms (delP l n) := (findM_not _ _ 0 (by omega)).1 (by omega)
      have : j ∉ nms l := by
        rw [hsplit]; rw [hN] at hjN
        intro hm
        rcases List.mem_append.1 hm with hm | hm
        · exact hjN (List.mem_append_left _ hm)
        · rcases List.mem_cons.1 hm with hm | hm
          · exact hjn hm
          · exact hjN (List.mem_append_right _ hm)
      unfold plM; rw [if_neg (by have := (findM_not j (nms l) 0 (by omega)).2 this; omega)]
theorem chg_nodup {l : List (Int × Int)} (o : OpM) (h : (nms l).Nodup) : (nms (chg l o)).Nodup := by
  unfold chg
  split
  · split
    · rename_i h0
      obtain ⟨i, hi, h1, _⟩ := findM_of h0
      rw [h1, Int.toNat_natCast, show ((i : Int) + 1).toNat = i + 1 by omega]
      have hs : (l.take i ++ l.drop (i + 1)).Sublist l := by
        have := List.Sublist.append (List.Sublist.refl (l.take i)) (List.drop_sublist_drop_left l (show i ≤ i + 1 by omega))
        rwa [List.take_append_drop] at this
      exact h.sublist (hs.map _)
    · exact h
  · split
    · rename_i h0
      rw [nms_set (by have := findM_lt h0; omega)]; exact h
    · rename_i h0
      rw [nms_app]
      have hnot := (findM_not o.name (nms l) 0 (by omega)).1 (by omega)
      rw [List.nodup_append]
      exact ⟨h, by simp [nms], fun a ha b hb e => hnot (by simp [nms] at hb; rw [← hb, ← e]; exact ha)⟩
theorem plpK_nodup (list : List OpM) (who : Int) : ∀ k, k ≤ list.length → (nms (plpK list who k)).Nodup
  | 0, _ => by simp [plpK, nms]
  | k+1, h => by
    by_cases hw : (list.getD k ⟨0, 0, 0, false⟩).who = who
    · rw [plpK_yes (by omega) hw]; exact chg_nodup _ (plpK_nodup list who k (by omega))
    · rw [plpK_no (by omega) hw]; exact plpK_nodup list who k (by omega)

end Go.Vl

