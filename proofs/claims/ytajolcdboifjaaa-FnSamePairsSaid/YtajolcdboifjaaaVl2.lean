/- Part 2 of the texts that the proof of FnSamePairs is built on. -/
import Derived.Test.YtajolcdboifjaaaVl1
import Derived.Laws.StructEq
import Derived.MapKept
import Derived.Test.YtajolcdboifjaaaProg
import Derived.KernelRfl
import Derived.ProofKit
import Derived.OpenShut
import Derived.Below
import Derived.Deep.Matrix
import Derived.ChangeArms
import Derived.ChangeSame
/- Classes above a class, and below it. -/
namespace Go.Vl
set_option linter.unusedVariables false
set_option linter.unusedSimpArgs false

/-- Steps lead from a class to another one. -/
inductive Abv (b : List (List Int)) : Nat → Nat → Prop
  | refl (c : Nat) : Abv b c c
  | step {c d x : Nat} (h : (d : Int) ∈ b.getD c []) (h2 : Abv b d x) : Abv b c x

theorem Abv.trans {b : List (List Int)} {c d x : Nat} (h : Abv b c d) (h2 : Abv b d x) : Abv b c x := by
  induction h with
  | refl c => exact h2
  | step h _ ih => exact .step h (ih h2)

def mkB (l : List Int) (m : List Bool) : List Bool := l.foldl (fun m x => m.set x.toNat true) m
def stB (b : List (List Int)) (i : Nat) (m : List Bool) : List Bool := if m.getD i false = true then mkB (b.getD i []) m else m
def goB (b : List (List Int)) : Nat → List Bool → List Bool
  | 0, m => m
  | i+1, m => goB b i (stB b (i+1) m)
/-- The same with the root, whose step is none. -/
def goC (b : List (List Int)) : Nat → List Bool → List Bool
  | 0, m => m
  | i+1, m => goC b i (stB b i m)
def abvB (b : List (List Int)) (c : Nat) : List Bool := goB b c ((List.replicate b.length false).set c true)
def idxT (m : List Bool) (k : Nat) : List Int := ((List.range k).filter (fun i => m.getD i false)).map (fun (i : Nat) => (i : Int))
def idxB (m : List Bool) : List Int := idxT m m.length
def abvL (b : List (List Int)) (c : Nat) : List Int := idxB (abvB b c)

/-- The marks of all classes below a class. -/
def belB (b : List (List Int)) (c : Nat) : List Bool := (List.range b.length).map (fun i => decide ((c : Int) ∈ abvL b i))
def belL (b : List (List Int)) (c : Nat) : List Int := idxB (belB b c)
end Go.Vl


/- Lists that keep others; merges of lists. -/
namespace Go.Vl
set_option linter.unusedVariables false
set_option linter.unusedSimpArgs false

/-- How far the second list is met along the first one, from a place on. -/
def kpN (short : List Int) : List Int → Nat → Nat
  | [], a => a
  | x :: l, a => kpN short l (if a < short.length ∧ short.getD a 0 = x then a + 1 else a)

/-- What KeepsOrder says. -/
def KO (long short : List Int) : Prop := OKL' long ∧ OKL' short ∧ short.Sublist long
  where OKL' (l : List Int) : Prop := (l.length : Int) ≤ 12 ∧ l.Nodup
end Go.Vl


/- Merges of lists. -/
namespace Go.Vl
set_option linter.unusedVariables false
set_option linter.unusedSimpArgs false

def fM (n : Int) : List Int → Int → Int
  | [], _ => -1
  | x :: xs, i => if x = n then i else fM n xs (i+1)

/-- Behind the first place. -/
def bhd (x : Int) (l : List Int) : Prop := 0 < fM x l 0
instance {x : Int} {l : List Int} : Decidable (bhd x l) := by unfold bhd; infer_instance
def anyB (ls : List (List Int)) (x : Int) : Prop := ∃ l ∈ ls, bhd x l
instance {ls : List (List Int)} {x : Int} : Decidable (anyB ls x) := by unfold anyB; infer_instance

def freeH (all : List (List Int)) (l : List Int) : Option Int := if 0 < l.length ∧ ¬ anyB all (l.getD 0 0) then some (l.getD 0 0) else none
def fhF (all : List (List Int)) : List (List Int) → Option Int
  | [] => none
  | l :: r => match freeH all l with
    | some x => some x
    | none => fhF all r
def fhM (ls : List (List Int)) : Option Int := fhF ls ls
/-- A list without a number at its head. -/
def tk (x : Int) (l : List Int) : List Int := if 0 < l.length ∧ l.getD 0 0 = x then l.drop 1 else l
def tot (ls : List (List Int)) : Nat := (ls.map List.length).sum
def mergeF : Nat → List (List Int) → List Int × List (List Int)
  | 0, ls => ([], ls)
  | n+1, ls => match fhM ls with
    | none => ([], ls)
    | some x => (x :: (mergeF n (ls.map (tk x))).1, (mergeF n (ls.map (tk x))).2)
def mergeM (ls : List (List Int)) : List Int × List (List Int) := mergeF (tot ls) ls
/-- Each once, where it stands first. -/
def onceF : List Int → List Int → List Int
  | acc, [] => acc
  | acc, x :: l => onceF (if x ∈ acc then acc else acc ++ [x]) l
/-- The first numbers of lists. -/
def hd1 (l : List Int) : List Int := l.take 1
def hds (ls : List (List Int)) : List Int := ls.flatMap hd1
end Go.Vl


/- A call that makes rows, in a statement whose order of evaluation is open. -/
namespace Go.Vl
set_option linter.unusedVariables false
set_option linter.unusedSimpArgs false
open Go.RowKit

section
variable {P : Program} {C : Ctx} {ops : Array Oper} {K : St → Prop} {s : St} {n : Nat} {listed : Array Bool}

end
end Go.Vl


/- More ghost steps: a row forgets that what it holds is new. -/
namespace Go.Vl
set_option linter.unusedVariables false
set_option linter.unusedSimpArgs false
open Go.RowKit

section
variable {P : Program} {C : Ctx} {Q : Go.Exit → St → Prop} {s : St}
end
end Go.Vl


/- Nil slices of the call's own that are known to be nil; a slice held to differ from nil. -/
namespace Go.Vl
set_option linter.unusedVariables false
set_option linter.unusedSimpArgs false
open Go.RowKit

section
variable {P : Program} {C : Ctx} {Q : Go.Exit → St → Prop} {s : St} {ops : Array Oper} {rest : List Oper} {t : Nat} {ty : TypeId} {pos : String} {af : Array Edge}

end
end Go.Vl


/- A slice is taken out of a row whose slices are its own: it becomes a row. -/
namespace Go.Vl
set_option linter.unusedVariables false
set_option linter.unusedSimpArgs false
open Go.RowKit

section
variable {P : Program} {C : Ctx} {Q : Go.Exit → St → Prop} {s : St} {ops : Array Oper} {rest : List Oper} {t : Nat} {ty : TypeId} {pos : String} {af : Array Edge}

end
end Go.Vl


/- A row of the call's own held to differ from nil. -/
namespace Go.Vl
set_option linter.unusedVariables false
set_option linter.unusedSimpArgs false
open Go.RowKit

section
variable {P : Program} {C : Ctx} {Q : Go.Exit → St → Prop} {s : St} {ops : Array Oper} {rest : List Oper} {t : Nat} {ty : TypeId} {pos : String} {af : Array Edge}

end
end Go.Vl


/- A slice of a row whose slices are its own held against nil. -/
namespace Go.Vl
set_option linter.unusedVariables false
set_option linter.unusedSimpArgs false
open Go.RowKit

section
variable {P : Program} {C : Ctx} {Q : Go.Exit → St → Prop} {s : St} {ops : Array Oper} {rest : List Oper} {t : Nat} {ty : TypeId} {pos : String} {af : Array Edge}

end
end Go.Vl


/- Ghost steps in a statement whose order is open. -/
namespace Go.Vl
set_option linter.unusedVariables false
set_option linter.unusedSimpArgs false
open Go.RowKit
theorem vd_st {P : Program} {C : Ctx} {ops : Array Oper} {K : St → Prop} {s s' : St} {n : Nat} {listed : Array Bool} (h : s = s') (next : VD P C ops n listed K s') : VD P C ops n listed K s := by rw [h]; exact next
end Go.Vl


/- Statements whose order of evaluation is open, with operations that write: these come when nothing else can. -/
namespace Go.Vl
set_option linter.unusedVariables false
set_option linter.unusedSimpArgs false
open Go.RowKit

section
variable {P : Program} {ops : Array Oper} {Q : Go.Exit → Act → World → Prop}

/-- Whatever order is picked; each step leaves all that was there as it was, or is one of those that come late. -/
def anyL (late : List Nat) (P : Program) (ops : Array Oper) (Q : Go.Exit → Act → World → Prop) : Nat → Array Bool → Act → World → Prop
  | 0, listed, a, w => Region.ready .any ops listed = [] ∧ Q .normal a w
  | n + 1, listed, a, w => (Region.ready .any ops listed = [] → Q .normal a w) ∧
      ∀ i ∈ Region.ready .any ops listed, wpOp P ops Q i (fun a' w' => (ExtW w w' ∨ late.contains i = true) ∧ anyL late P ops Q n (listed.setIfInBounds i true) a' w') a w

theorem any_of_anyL {late : List Nat} : ∀ (n : Nat) (listed : Array Bool) (a : Act) (w : World), anyL late P ops Q n listed a w → wpAny P .any ops Q n listed a w
  | 0, _, _, _, h => h
  | n + 1, _, _, _, h => ⟨h.1, fun i hi => wpOp_mono (fun a' w' h' => any_of_anyL n _ a' w' h'.2) (h.2 i hi)⟩

theorem anyL_first {late : List Nat} {M : Nat → Bool} {i : Nat} {oi : Oper} {v : Value} (hi : ops[i]? = some oi) (hsel : ∀ (j : Nat) (o : Oper) cs b, ops[j]? = some o → o.op ≠ .select cs b) (hQ : ∀ c a w, ¬ Q (.panic c) a w)
    (hcl : ∀ j oj, ops[j]? = some oj → j ≠ i → (∀ e ∈ oj.after, Region.binds .any e = true → M e.on = true) → M j = true ∧ late.contains j = false) :
    ∀ (n : Nat) (listed : Array Bool) (a : Act) (w : World),
      (∀ j oj, ops[j]? = some oj → j ≠ i → listed.getD j true = false → (∀ e ∈ oj.after, Region.binds .any e = true → e.on ≠ i) → oi.apart ops oj = true) →
      (∀ k, listed.getD k false = true → M k = true) →
      i ∈ Region.ready .any ops listed → yieldsE P ops oi v a w → anyL late P ops Q n (listed.setIfInBounds i true) (a.put oi.dst v) w → anyL late P ops Q (n + 1) listed a w := by
  intro n
  induction n with
  | zero =>
    intro listed a w _ _ hr hy H
    refine ⟨fun h => (by rw [h] at hr; cases hr), fun j hj => ?_⟩
    by_cases hji : j = i
    · subst hji; exact hy.op hi ⟨.inl (ExtW.refl w), H⟩
    · have := ready_mono hj hji
      rw [H.1] at this
      cases this
  | succ n ih =>
    intro listed a w hfree hsub hr hy H
    refine ⟨fun h => (by rw [h] at hr; cases hr), fun j hj => ?_⟩
    by_cases hji : j = i
    · subst hji; exact hy.op hi ⟨.inl (ExtW.refl w), H⟩
    · have g1 := H.2 j (ready_mono hj hji)
      obtain ⟨hjun, oj, hoj, hall⟩ := mem_ready.1 hj
      have hnot : ∀ e ∈ oj.after, Region.binds .any e = true → e.on ≠ i := by
        intro e he hb heq
        have l1 := hall e he hb
        have l0 := (mem_ready.1 hr).1
        rw [heq] at l1
        rcases Nat.lt_or_ge i listed.size with h' | h'
        · simp [h'] at l0 l1
          rw [l0] at l1
          cases l1
        · simp [Array.getElem?_eq_none h'] at l1
      obtain ⟨hMj, hlj⟩ := hcl j oj hoj hji (fun e he hb => hsub _ (hall e he hb))
      have hext : ∀ (w' : World), (ExtW w w' ∨ late.contains j = true) → ExtW w w' := by
        intro w' h
        rcases h with h | h
        · exact h
        · rw [hlj] at h; cases h
      have g2 := op_before hoj (hfree j oj hoj hji hjun hnot) (fun cs b => hsel i oi cs b hi) (fun cs b => hsel j oj cs b hoj) hQ (fun _ w' h => hext w' h.1) hy g1
      have hfree' : ∀ k ok, ops[k]? = some ok → k ≠ i → (listed.setIfInBounds j true).getD k true = false → (∀ e ∈ ok.after, Region.binds .any e = true → e.on ≠ i) → oi.apart ops ok = true := by
        intro k ok hk hki hun hno
        refine hfree k ok hk hki ?_ hno
        by_cases hjk : j = k
        · subst hjk; exact hjun
        · rw [getD_set_ne true hjk] at hun; exact hun
      have hsub' : ∀ k, (listed.setIfInBounds j true).getD k false = true → M k = true := by
        intro k hk
        by_cases hjk : j = k
        · subst hjk; exact hMj
        · rw [getD_set_ne false hjk] at hk; exact hsub k hk
      refine wpOp_mono (fun a' w' g3 => ⟨g3.2.1, ih (listed.setIfInBounds j true) a' w' hfree' hsub' (ready_mono hr (Ne.symm hji)) g3.1 ?_⟩) g2
      rw [Array.setIfInBounds_comm _ _ hji]
      exact g3.2.2

/-- Without i no late operation can come: M has all that can. -/
def closedB (ops : Array Oper) (late M : List Nat) (i : Nat) : Bool :=
  (List.range ops.size).all fun j => j == i || match ops[j]? with
    | some oj => (oj.after.any fun e => Region.binds .any e && !M.contains e.on) || (M.contains j && !late.contains j)
    | none => true
def subB (listed : Array Bool) (M : List Nat) : Bool := (List.range listed.size).all fun k => !listed.getD k false || M.contains k

theorem closed_spec {late M : List Nat} {i : Nat} (h : closedB ops late M i = true) (j : Nat) (oj : Oper) (hj : ops[j]? = some oj) (hne : j ≠ i) (he : ∀ e ∈ oj.after, Region.binds .any e = true → M.contains e.on = true) :
    M.contains j = true ∧ late.contains j = false := by
  simp only [closedB, List.all_eq_true, List.mem_range] at h
  have h1 := h j (Array.getElem?_eq_some_iff.1 hj).1
  simp only [hj, Bool.or_eq_true, beq_iff_eq, hne, false_or] at h1
  rcases h1 with h1 | h1
  · obtain ⟨e, h2, h3⟩ := Array.any_eq_true'.1 h1
    simp only [Bool.and_eq_true, Bool.not_eq_true'] at h3
    rw [he e h2 h3.1] at h3
    cases h3.2
  · simp only [Bool.and_eq_true, Bool.not_eq_true'] at h1
    exact h1

theorem sub_spec {listed : Array Bool} {M : List Nat} (h : subB listed M = true) (k : Nat) (hk : listed.getD k false = true) : M.contains k = true := by
  simp only [subB, List.all_eq_true, List.mem_range, Bool.or_eq_true, Bool.not_eq_true'] at h
  rcases Nat.lt_or_ge k listed.size with h1 | h1
  · rcases h k h1 with h2 | h2
    · rw [hk] at h2; cases h2
    · exact h2
  · simp [Array.getD, Nat.not_lt.2 h1] at hk
end

def VL (late : List Nat) (P : Program) (C : Ctx) (ops : Array Oper) (n : Nat) (listed : Array Bool) (K : St → Prop) (s : St) : Prop := ∀ m a w, SimM C s m a w → anyL late P ops (post0 C K) n listed a w

section
variable {late : List Nat} {P : Program} {C : Ctx} {ops : Array Oper} {K : St → Prop} {s : St} {n : Nat} {listed : Array Bool}

theorem vc_drawL (late : List Nat) {id : Nat} {Q : Go.Exit → St → Prop} (hd : Region.departs ops = false) (h : VL late P C ops ops.size (Array.replicate ops.size false) (Q .normal) s) : VC P C (.region id ops true) Q s := by
  intro a w ⟨m, hs⟩
  refine wp_region_draw fun t => ?_
  simp only [Region.schedule, hd, Bool.not_false, Bool.or_true, if_true]
  refine wpOps_monoQ (Q := post0 C (Q .normal)) ?_ _ _ _ (wpAny_sound ops.size t _ a _ (any_of_anyL _ _ _ _ (h m a _ (hs.grow (w' := { w with drawn := w.drawn + 1 }) (ExtW.refl w) rfl rfl rfl))))
  rintro e a' w' ⟨rfl, s', hs', hk⟩
  exact ⟨s', hs', hk⟩

theorem vl_light (i : Nat) (M : List Nat) {o : Oper} {t : Nat} {sv : SV} (hi : ops[i]? = some o) (hd : o.dst = some t) (ht : Nat.blt t s.n = true) (hr : (Region.ready .any ops listed).contains i = true) (hns : Region.noSelect ops = true)
    (hf : Region.free .any ops listed i = true) (hM : closedB ops late M i = true) (hsub : subB listed M = true) (hw : Wnt C ops s o true) (hl : Lt P C s { o with guard := none } sv) (next : VL late P C ops n (listed.setIfInBounds i true) K (s.put t sv)) : VL late P C ops (n + 1) listed K s := by
  intro m a w hs
  obtain ⟨v, hrun, hv⟩ := hl m a w hs
  refine anyL_first (M := M.contains) hi (Region.noSelect_spec hns) post0_panic (fun j oj hj hne he => closed_spec hM j oj hj hne he) n listed a w (Region.free_spec hi hf) (sub_spec hsub) (by simpa using hr) (.inl ⟨hw m a w hs, hrun⟩) ?_
  rw [hd]
  exact next m _ _ (hs.put (blt_lt ht) hv)

theorem vl_nil (hr : Region.ready .any ops listed = []) (h : K s) : VL late P C ops n listed K s := by
  intro m a w hs
  have hq : post0 C K .normal a w := ⟨rfl, s, ⟨m, hs⟩, h⟩
  cases n with
  | zero => exact ⟨hr, hq⟩
  | succ n => exact ⟨fun _ => hq, by rw [hr]; simp⟩

theorem wp_mono2 {Q Q' : Go.Exit → Act → World → Prop} {K K' : Act → World → Prop} (hq : ∀ e a w, e ≠ .normal → Q e a w → Q' e a w) (hk : ∀ a w, K a w → K' a w) {o : Oper} {a : Act} {w : World} (h : o.wp P a w K Q) : o.wp P a w K' Q' := by
  unfold Oper.wp at *
  generalize (execOp a.eval o).run P w = r at *
  cases r with
  | ok x w' =>
    cases x with
    | value u => exact hk _ _ h
    | skip => exact hk _ _ h
    | defer d => exact hk _ _ h
    | enter f args =>
      simp only [Oper.upon] at h ⊢
      refine h.mono fun e w'' he => ?_
      cases e with
      | returned u => exact hk _ _ he
      | panicked c => exact hq _ _ _ (by simp) he
      | outgrown => obtain ⟨a3, w3, h3⟩ := he; exact ⟨a3, w3, hq _ _ _ (by simp) h3⟩
    | row row args => exact Rows.mono h fun u w'' he => hk _ _ he
    | _ => exact h
  | halt x w' =>
    cases x with
    | panic v => exact hq _ _ _ (by simp) h
    | _ => exact h

/-- An operation when nothing else can come. -/
theorem vl_one (i : Nat) {o : Oper} (hi : ops[i]? = some o) (hr : Region.ready .any ops listed = [i]) (hlate : late.contains i = true)
    (h : VO P C ops [o] (fun e s' => e = .normal ∧ VL late P C ops n (listed.setIfInBounds i true) K s') s) : VL late P C ops (n + 1) listed K s := by
  intro m a w hs
  refine ⟨fun h0 => (by rw [hr] at h0; cases h0), fun j hj => ?_⟩
  rw [hr] at hj
  simp at hj
  subst hj
  have h1 := h a w ⟨m, hs⟩
  have hfin : ∀ a' w', wpList P ops (post C (fun e s' => e = .normal ∧ VL late P C ops n (listed.setIfInBounds j true) K s')) [] a' w' → (ExtW w w' ∨ late.contains j = true) ∧ anyL late P ops (post0 C K) n (listed.setIfInBounds j true) a' w' := by
    rintro a' w' ⟨s', ⟨m', hs'⟩, _, h2⟩
    exact ⟨.inr hlate, h2 m' a' w' hs'⟩
  have hpost : ∀ e a' w', e ≠ .normal → post C (fun e s' => e = .normal ∧ VL late P C ops n (listed.setIfInBounds j true) K s') e a' w' → post0 C K e a' w' := by
    rintro e a' w' hne ⟨s', _, h2, _⟩
    exact absurd h2 hne
  unfold wpOp
  simp only [hi]
  unfold wpList at h1
  by_cases hw : Region.wanted o (yielded ops a.tmps) = true
  · rw [if_pos hw] at h1 ⊢
    rcases h1 with h1 | ⟨h1, a2, w2, h2⟩
    · exact .inl (wp_mono2 hpost hfin h1)
    · exact .inr ⟨h1, a2, w2, hpost _ _ _ (by simp) h2⟩
  · rw [if_neg hw] at h1 ⊢
    exact hfin _ _ h1

theorem vl_st {s' : St} (h : s = s') (next : VL late P C ops n listed K s') : VL late P C ops n listed K s := by rw [h]; exact next
theorem vo_done {Q : Go.Exit → St → Prop} (h : Q .normal s) : VO P C ops [] Q s := vo_nil h
end
end Go.Vl


/- '==' on structs of two numbers. -/
namespace Go.Vl
set_option linter.unusedVariables false
set_option linter.unusedSimpArgs false
open Go.RowKit

/-- Structs of two numbers are compared number by number. -/
def EqI2 (P : Program) (T : TypeId) : Prop :=
  (∀ (x y x' y' : Int) (w : World), (Op.equalIn 10000 T (.agg #[.int .i64 x, .int .i64 y]) (.agg #[.int .i64 x', .int .i64 y'])).run P w = .ok (x == x' && y == y') w) ∧ P.eqGuardType P.depth T = false

theorem RP.agg2 {w : World} {G : Nat → Prop} {a b : Int} {v : Value} (h : RP w G (.agg [.int .i64 a, .int .i64 b]) v) : v = .agg #[.int .i64 a, .int .i64 b] := by
  cases h with
  | agg _ vs hl h1 h =>
    simp only [List.length_cons, List.length_nil] at hl
    have e0 : vs[0]? = some vs[0] := Array.getElem?_eq_getElem (by omega)
    have e1 : vs[1]? = some vs[1] := Array.getElem?_eq_getElem (by omega)
    have h0 := h 0 _ _ rfl e0
    have h2 := h 1 _ _ rfl e1
    have k0 : vs[0] = .int .i64 a := by generalize vs[0] = u at h0; cases h0; rfl
    have k1 : vs[1] = .int .i64 b := by generalize vs[1] = u at h2; cases h2; rfl
    congr 1
    apply Array.ext
    · simp; omega
    · intro i hi hi2
      match i, hi with
      | 0, _ => exact k0
      | 1, _ => exact k1
      | i+2, hi => omega

section
variable {P : Program} {C : Ctx} {Q : Go.Exit → St → Prop} {s : St} {ops : Array Oper} {rest : List Oper} {t : Nat} {ty : TypeId} {pos : String} {af : Array Edge}

theorem lt_eqS2 {xt yt : TypeId} {x y : Operand} {a1 a2 b1 b2 : Int} {f1 f2 : Bool} (h : EqI2 P xt) (hx : getO s.env x = .pv f1 (.agg [.int .i64 a1, .int .i64 a2])) (hy : getO s.env y = .pv f2 (.agg [.int .i64 b1, .int .i64 b2])) :
    Lt P C s ⟨some t, .binOp .eql xt x y yt, ty, pos, af, none⟩ (.pv true (.bool (a1 == b1 && a2 == b2))) := by
  intro m a w hs
  have e1 := hs.get x
  rw [hx] at e1
  have e1 := e1.pv_inv.agg2
  have e2 := hs.get y
  rw [hy] at e2
  have e2 := e2.pv_inv.agg2
  refine ⟨_, fun w' _ => ?_, .pv _ _ _ (.bool _)⟩
  have hg : (eqGuard .eql xt x y (.agg #[.int .i64 a1, .int .i64 a2]) (.agg #[.int .i64 b1, .int .i64 b2])).run P w' = .ok () w' := run_eqGuard_agg w' .eql xt x y _ _ h.2
  have hb : (binOp .eql xt (.agg #[.int .i64 a1, .int .i64 a2]) (.agg #[.int .i64 b1, .int .i64 b2])).run P w' = .ok (.bool (a1 == b1 && a2 == b2)) w' := by
    rw [run_eql_struct, h.1]; rfl
  simp only [execOp, e1, e2, Sem.run_bind, hg, Result.andThen_ok, hb]
  rfl

end
end Go.Vl


/- Operations that make new memory, in a statement whose order of evaluation is open. -/
namespace Go.Vl
set_option linter.unusedVariables false
set_option linter.unusedSimpArgs false
open Go.RowKit

/-- The operation hands back a value, and all that was there is there as it was. -/
def Xt (P : Program) (C : Ctx) (s : St) (o : Oper) (s1 : St) (sv : SV) : Prop :=
  ∀ m a w, SimM C s m a w → ∃ v w' m', (execOp a.eval o).run P w = .ok (.value v) w' ∧ SimM C s1 m' a w' ∧ RS w' (Gd C s1.rows m' w') m' s1.rows.length sv v ∧ ExtW w w'

section
variable {late : List Nat} {P : Program} {C : Ctx} {ops : Array Oper} {K : St → Prop} {s s1 : St} {n : Nat} {listed : Array Bool}

end
section
variable {P : Program} {C : Ctx} {s : St} {t : Nat} {ty : TypeId} {pos : String} {af : Array Edge}

end
end Go.Vl


/- Side conditions and plain states, by a tactic that the rule itself carries. -/
namespace Go.Vl
set_option linter.unusedVariables false
set_option linter.unusedSimpArgs false
open Go.RowKit

/-- A side condition. -/
theorem sd {p : Prop} (h : p := by first | omega | (simp only [List.length_map] <;> omega) | (simp only [List.length_map, List.length_set, List.length_append, List.length_cons, List.length_nil, List.length_replicate, List.length_take, List.length_drop] <;> omega) | (simp <;> omega) | (constructor <;> (first | omega | (simp <;> omega))) | (refine ⟨?_, ?_, ?_, ?_⟩ <;> omega) | exact ⟨xorI_nonneg _ _, by omega⟩ | decide) : p := h

section
variable {late : List Nat} {P : Program} {C : Ctx} {Q : Go.Exit → St → Prop} {K : St → Prop} {s s' : St} {ops : Array Oper} {n : Nat} {listed : Array Bool}
theorem vo_stN {l : List Oper} (next : VO P C ops l Q s') (h : s = s' := by (try simp only [St.put, exposeE, killE, SV.expose, SV.kill, Row.expose, Row.kill, rowsAfter_nil, rowsAfter_one, packS, SV.shift, placeOf, enumE, List.zip_cons_cons, List.zip_nil_right, List.map_cons, List.map_nil, List.set_cons_zero, List.set_cons_succ, List.length_cons, List.length_nil, List.cons_append, List.nil_append, List.drop_succ_cons, List.drop_zero, List.drop_nil, List.take_succ_cons, List.take_zero, List.take_nil, List.getElem?_cons_zero, List.getElem?_cons_succ, List.getElem?_nil, Option.getD_some, Option.getD_none, Option.map_some, Option.map_none, Nat.reduceAdd, Nat.reduceSub, Nat.reduceEqDiff, Nat.zero_add, Bool.true_or, PV.scal, Bool.or_false, Bool.or_true, Bool.false_or, Bool.and_true, Bool.and_false, Bool.true_and, reduceIte, reduceCtorEq]); exact eq_refl _) : VO P C ops l Q s := vo_st h next
theorem vc_stN {code : Code} (next : VC P C code Q s') (h : s = s' := by (try simp only [St.put, exposeE, killE, SV.expose, SV.kill, Row.expose, Row.kill, rowsAfter_nil, rowsAfter_one, packS, SV.shift, placeOf, enumE, List.zip_cons_cons, List.zip_nil_right, List.map_cons, List.map_nil, List.set_cons_zero, List.set_cons_succ, List.length_cons, List.length_nil, List.cons_append, List.nil_append, List.drop_succ_cons, List.drop_zero, List.drop_nil, List.take_succ_cons, List.take_zero, List.take_nil, List.getElem?_cons_zero, List.getElem?_cons_succ, List.getElem?_nil, Option.getD_some, Option.getD_none, Option.map_some, Option.map_none, Nat.reduceAdd, Nat.reduceSub, Nat.reduceEqDiff, Nat.zero_add, Bool.true_or, PV.scal, Bool.or_false, Bool.or_true, Bool.false_or, Bool.and_true, Bool.and_false, Bool.true_and, reduceIte, reduceCtorEq]); exact eq_refl _) : VC P C code Q s := vc_st h next
end
end Go.Vl


/- A call whose function's code is gone through in its place: the caller's slots wait in a row of their own. -/
namespace Go.Vl
set_option linter.unusedVariables false
set_option linter.unusedSimpArgs false
open Go.RowKit

/-- What a result holds at a function's end. -/
def resG (s : St) : Nat × Option (Nat × Nat) → SV
  | (t, none) => look s.env t
  | (a, some _) => match look s.env a with
    | .ptr id 0 0 0 => match s.rows[id]? with
      | some (.var _ cs) => match collectC cs with
        | some (f, ps) => .pv f (.agg ps)
        | none => .ag cs
      | _ => .any
    | _ => .any

/-- Is the result there? -/
def resGOK (s : St) : Nat × Option (Nat × Nat) → Bool
  | (_, none) => true
  | (a, some (_, n)) => match look s.env a with
    | .ptr id 0 0 0 => match s.rows[id]? with
      | some (.var _ cs) => Nat.beq cs.length n
      | _ => false
    | _ => false

def inQ (us : List Value) (i : Nat) (L : List Nat) (rs : List (Nat × Option (Nat × Nat))) (n t : Nat) (K : St → Prop) (e : Go.Exit) (s' : St) : Prop :=
  (e = .normal ∨ e = .ret) ∧ ∃ cs', s'.rows[i]? = some (.gh us cs') ∧ rs.all (resGOK s') = true ∧ K ⟨n, (t, packS (rs.map (resG s'))) :: L.zip cs', s'.rows.set i .dead⟩

section
variable {P : Program} {C : Ctx} {Q : Go.Exit → St → Prop} {s : St}

theorem run_resG1 {m : Nat → MV} {a : Act} {w : World} (h : SimM C s m a w) {r : Nat × Option (Nat × Nat)} (hT : resT P r) (hok : resGOK s r = true) :
    ∃ v, (resM a.tmps (resVar r)).run P w = .ok v w ∧ RS w (Gd C s.rows m w) m s.rows.length (resG s r) v := by
  obtain ⟨t, _ | ⟨T, n⟩⟩ := r
  · exact ⟨_, rfl, h.env t⟩
  · obtain ⟨D, inf, hu, hD, hinf, hsz⟩ := hT
    simp only [resGOK] at hok
    split at hok
    · rename_i id hid
      split at hok
      · rename_i R cs hrow
        have hl := Nat.eq_of_beq_eq_true hok
        have hg : getO s.env (.tmp t) = .ptr id 0 0 0 := hid
        obtain ⟨b, cur, hv, _, hbk, hcl, hr, h1⟩ := h.var hg hrow
        have hv2 : a.tmps.getD t undef = .pointer (some ⟨b, 0, none⟩) := hv
        refine ⟨.agg cur, ?_, ?_⟩
        · have e := run_loadAt_mid (P := P) w b 0 T cur.toList D (fun j v hj => by
            rw [cell_of_row w b _ cur R (0, 0) hbk]; simpa using hj) hu hD (by rw [hinf]; simp [hsz, hcl, hl])
          simp only [resVar, resM, hv2]
          simpa [Instr.loadAt, Instr.sureAddr, asAddr] using e
        · simp only [resG, hid, hrow]
          split
          · rename_i f ps hcc
            obtain ⟨c1, c2⟩ := collectC_get hcc
            refine .pv _ _ _ (.agg ps cur (by rw [hcl, c1]) (fun j p hp => ?_) (fun j p u hp hu => ?_))
            · obtain ⟨g, h3, _⟩ := c2 j p hp
              have hlt : j < cur.size := by rw [hcl]; exact (List.getElem?_eq_some_iff.1 h3).1
              have hu := Array.getElem?_eq_getElem hlt
              exact (hr _ _ _ h3 hu).pv_inv.notAgg (h1 _ _ hu)
            · obtain ⟨g, h3, h4⟩ := c2 j p hp
              exact RP.flag (G := Gd C s.rows m w) (fun b hb => hb.weak) (hr _ _ _ h3 hu).pv_inv h4
          · exact .ag cs cur hcl hr h1
      · cases hok
    · cases hok

theorem run_resGA {m : Nat → MV} {a : Act} {w : World} (h : SimM C s m a w) {fn : Func} {rs : List (Nat × Option (Nat × Nat))} (hr : fn.results = (rs.map resVar).toArray) (hl : rs.length ≤ 5)
    (hT : ∀ r ∈ rs, resT P r) (hok : rs.all (resGOK s) = true) :
    ∃ us : Array Value, (results fn a.tmps).run P w = .ok (pack us) w ∧ us.size = rs.length ∧ ∀ (j : Nat) (r : Nat × Option (Nat × Nat)), rs[j]? = some r → RS w (Gd C s.rows m w) m s.rows.length (resG s r) (us.getD j undef) := by
  rw [results_eq, hr]
  rw [List.all_eq_true] at hok
  match rs, hl with
  | [], _ => exact ⟨#[], by simp [pack], rfl, fun j r hr => by simp at hr⟩
  | [r1], _ =>
    obtain ⟨v1, h1, k1⟩ := run_resG1 (P := P) h (hT r1 (by simp)) (hok r1 (by simp))
    refine ⟨#[v1], by simp [h1, pack], rfl, fun j r hr => ?_⟩
    match j, hr with
    | 0, hr => cases hr; exact k1
  | [r1, r2], _ =>
    obtain ⟨v1, h1, k1⟩ := run_resG1 (P := P) h (hT r1 (by simp)) (hok r1 (by simp))
    obtain ⟨v2, h2, k2⟩ := run_resG1 (P := P) h (hT r2 (by simp)) (hok r2 (by simp))
    refine ⟨#[v1, v2], by simp [h1, h2, pack], rfl, fun j r hr => ?_⟩
    match j, hr with
    | 0, hr => cases hr; exact k1
    | 1, hr => cases hr; exact k2
  | [r1, r2, r3], _ =>
    obtain ⟨v1, h1, k1⟩ := run_resG1 (P := P) h (hT r1 (by simp)) (hok r1 (by simp))
    obtain ⟨v2, h2, k2⟩ := run_resG1 (P := P) h (hT r2 (by simp)) (hok r2 (by simp))
    obtain ⟨v3, h3, k3⟩ := run_resG1 (P := P) h (hT r3 (by simp)) (hok r3 (by simp))
    refine ⟨#[v1, v2, v3], by simp [h1, h2, h3, pack], rfl, fun j r hr => ?_⟩
    match j, hr with
    | 0, hr => cases hr; exact k1
    | 1, hr => cases hr; exact k2
    | 2, hr => cases hr; exact k3
  | [r1, r2, r3, r4], _ =>
    obtain ⟨v1, h1, k1⟩ := run_resG1 (P := P) h (hT r1 (by simp)) (hok r1 (by simp))
    obtain ⟨v2, h2, k2⟩ := run_resG1 (P := P) h (hT r2 (by simp)) (hok r2 (by simp))
    obtain ⟨v3, h3, k3⟩ := run_resG1 (P := P) h (hT r3 (by simp)) (hok r3 (by simp))
    obtain ⟨v4, h4, k4⟩ := run_resG1 (P := P) h (hT r4 (by simp)) (hok r4 (by simp))
    refine ⟨#[v1, v2, v3, v4], by simp [h1, h2, h3, h4, pack], rfl, fun j r hr => ?_⟩
    match j, hr with
    | 0, hr => cases hr; exact k1
    | 1, hr => cases hr; exact k2
    | 2, hr => cases hr; exact k3
    | 3, hr => cases hr; exact k4
  | [r1, r2, r3, r4, r5], _ =>
    obtain ⟨v1, h1, k1⟩ := run_resG1 (P := P) h (hT r1 (by simp)) (hok r1 (by simp))
    obtain ⟨v2, h2, k2⟩ := run_resG1 (P := P) h (hT r2 (by simp)) (hok r2 (by simp))
    obtain ⟨v3, h3, k3⟩ := run_resG1 (P := P) h (hT r3 (by simp)) (hok r3 (by simp))
    obtain ⟨v4, h4, k4⟩ := run_resG1 (P := P) h (hT r4 (by simp)) (hok r4 (by simp))
    obtain ⟨v5, h5, k5⟩ := run_resG1 (P := P) h (hT r5 (by simp)) (hok r5 (by simp))
    refine ⟨#[v1, v2, v3, v4, v5], by simp [h1, h2, h3, h4, h5, pack], rfl, fun j r hr => ?_⟩
    match j, hr with
    | 0, hr => cases hr; exact k1
    | 1, hr => cases hr; exact k2
    | 2, hr => cases hr; exact k3
    | 3, hr => cases hr; exact k4
    | 4, hr => cases hr; exact k5

end
end Go.Vl


/- '!=' on structs of two numbers. -/
namespace Go.Vl
set_option linter.unusedVariables false
set_option linter.unusedSimpArgs false
open Go.RowKit

section
variable {P : Program} {C : Ctx} {Q : Go.Exit → St → Prop} {s : St} {ops : Array Oper} {rest : List Oper} {t : Nat} {ty : TypeId} {pos : String} {af : Array Edge}

end
section
variable {P : Program}
end
end Go.Vl


/- What yields the same in every world may be taken first, whatever else comes. -/
namespace Go.Vl
set_option linter.unusedVariables false
set_option linter.unusedSimpArgs false
open Go.RowKit

section
variable {P : Program} {ops : Array Oper} {Q : Go.Exit → Act → World → Prop}

def yields0 (P : Program) (ops : Array Oper) (o : Oper) (v : Value) (a : Act) : Prop :=
  (Region.wanted o (yielded ops a.tmps) = true ∧ ∀ w, (execOp a.eval o).run P w = .ok (.value v) w) ∨ (Region.wanted o (yielded ops a.tmps) = false ∧ v = undef)

theorem yields0.step {o : Oper} {v : Value} {a a' : Act} (h : yields0 P ops o v a) (he : execOp a'.eval o = execOp a.eval o)
    (hw : Region.wanted o (yielded ops a'.tmps) = Region.wanted o (yielded ops a.tmps)) : yields0 P ops o v a' := by
  unfold yields0 at *
  rw [he, hw]
  exact h

theorem yields0.op {i : Nat} {o : Oper} {v : Value} {a : Act} {w : World} (hi : ops[i]? = some o) (hy : yields0 P ops o v a) {K : Act → World → Prop} (h : K (a.put o.dst v) w) : wpOp P ops Q i K a w := by
  unfold wpOp
  simp only [hi]
  rcases hy with ⟨hw, hv⟩ | ⟨hw, rfl⟩
  · simp only [hw, if_true, Oper.wp, hv w, Oper.upon]; exact .inl h
  · simp only [hw, Bool.false_eq_true, if_false]; exact h

theorem op_before0 {j : Nat} {oi oj : Oper} {v : Value} (hj : ops[j]? = some oj) (hap : oi.apart ops oj = true) (hsi : ∀ cs b, oi.op ≠ .select cs b) (hsj : ∀ cs b, oj.op ≠ .select cs b)
    (hQ : ∀ c a w, ¬ Q (.panic c) a w) {K : Act → World → Prop} {a : Act} {w : World} (hy : yields0 P ops oi v a) (h : wpOp P ops Q j K (a.put oi.dst v) w) :
    wpOp P ops Q j (fun a' w' => yields0 P ops oi v a' ∧ K (a'.put oi.dst v) w') a w := by
  obtain ⟨h1, h2, h3⟩ := Oper.apart_spec hap
  have keep : ∀ (u : Value), yields0 P ops oi v (a.put oj.dst u) := fun u => hy.step (execOp_put oi hsi a oj.dst u h3) (wanted_put oi a oj.dst u h3)
  have fin : ∀ (u : Value) (w' : World), K ((a.put oi.dst v).put oj.dst u) w' → yields0 P ops oi v (a.put oj.dst u) ∧ K ((a.put oj.dst u).put oi.dst v) w' := by
    intro u w' hk
    exact ⟨keep u, by rw [← Act.put_comm a v u h2]; exact hk⟩
  unfold wpOp at *
  simp only [hj] at *
  rw [wanted_put oj a oi.dst v h1] at h
  by_cases hw : Region.wanted oj (yielded ops a.tmps) = true
  · rw [if_pos hw] at h ⊢
    rcases h with h | ⟨hasks, hlets⟩
    · left
      unfold Oper.wp at *
      rw [execOp_put oj hsj a oi.dst v h1] at h
      generalize (execOp a.eval oj).run P w = r at *
      cases r with
      | ok n w' =>
        cases n with
        | value u => exact fin u w' h
        | skip => exact fin undef w' h
        | defer d =>
          simp only [Oper.upon] at h ⊢
          refine ⟨?_, by rw [← Act.put_comm _ v undef h2, ← Act.put_defers]; exact h⟩
          have hy1 : yields0 P ops oi v { a with defers := d :: a.defers } := hy.step rfl rfl
          exact hy1.step (execOp_put oi hsi _ oj.dst undef h3) (wanted_put oi _ oj.dst undef h3)
        | enter f args =>
          simp only [Oper.upon] at h ⊢
          refine h.mono fun e w'' he => ?_
          cases e with
          | returned u => exact fin u w'' he
          | panicked c => exact (hQ _ _ _ he).elim
          | outgrown => exact he
        | row row args => exact Rows.mono h fun u w'' he => fin u w'' he
        | _ => exact h
      | halt x w' =>
        cases x <;> simp only [Oper.upon] at h ⊢
        exact (hQ _ _ _ h).elim
    · right
      refine ⟨?_, hlets⟩
      unfold Oper.asks at *
      rw [execOp_put oj hsj a oi.dst v h1] at hasks
      exact hasks
  · rw [if_neg hw] at h ⊢
    exact fin undef w h

theorem anyL_first0 {late : List Nat} {i : Nat} {oi : Oper} {v : Value} (hi : ops[i]? = some oi) (hsel : ∀ (j : Nat) (o : Oper) cs b, ops[j]? = some o → o.op ≠ .select cs b) (hQ : ∀ c a w, ¬ Q (.panic c) a w) :
    ∀ (n : Nat) (listed : Array Bool) (a : Act) (w : World),
      (∀ j oj, ops[j]? = some oj → j ≠ i → listed.getD j true = false → (∀ e ∈ oj.after, Region.binds .any e = true → e.on ≠ i) → oi.apart ops oj = true) →
      i ∈ Region.ready .any ops listed → yields0 P ops oi v a → anyL late P ops Q n (listed.setIfInBounds i true) (a.put oi.dst v) w → anyL late P ops Q (n + 1) listed a w := by
  intro n
  induction n with
  | zero =>
    intro listed a w _ hr hy H
    refine ⟨fun h => (by rw [h] at hr; cases hr), fun j hj => ?_⟩
    by_cases hji : j = i
    · subst hji; exact hy.op hi ⟨.inl (ExtW.refl w), H⟩
    · have := ready_mono hj hji
      rw [H.1] at this
      cases this
  | succ n ih =>
    intro listed a w hfree hr hy H
    refine ⟨fun h => (by rw [h] at hr; cases hr), fun j hj => ?_⟩
    by_cases hji : j = i
    · subst hji; exact hy.op hi ⟨.inl (ExtW.refl w), H⟩
    · have g1 := H.2 j (ready_mono hj hji)
      obtain ⟨hjun, oj, hoj, hall⟩ := mem_ready.1 hj
      have hnot : ∀ e ∈ oj.after, Region.binds .any e = true → e.on ≠ i := by
        intro e he hb heq
        have l1 := hall e he hb
        have l0 := (mem_ready.1 hr).1
        rw [heq] at l1
        rcases Nat.lt_or_ge i listed.size with h' | h'
        · simp [h'] at l0 l1
          rw [l0] at l1
          cases l1
        · simp [Array.getElem?_eq_none h'] at l1
      have g2 := op_before0 hoj (hfree j oj hoj hji hjun hnot) (fun cs b => hsel i oi cs b hi) (fun cs b => hsel j oj cs b hoj) hQ hy g1
      have hfree' : ∀ k ok, ops[k]? = some ok → k ≠ i → (listed.setIfInBounds j true).getD k true = false → (∀ e ∈ ok.after, Region.binds .any e = true → e.on ≠ i) → oi.apart ops ok = true := by
        intro k ok hk hki hun hno
        refine hfree k ok hk hki ?_ hno
        by_cases hjk : j = k
        · subst hjk; exact hjun
        · rw [getD_set_ne true hjk] at hun; exact hun
      refine wpOp_mono (fun a' w' g3 => ⟨g3.2.1, ih (listed.setIfInBounds j true) a' w' hfree' (ready_mono hr (Ne.symm hji)) g3.1 ?_⟩) g2
      rw [Array.setIfInBounds_comm _ _ hji]
      exact g3.2.2
end

/-- The operation hands back a value that no world changes. -/
def Lt0 (P : Program) (C : Ctx) (s : St) (o : Oper) (sv : SV) : Prop :=
  ∀ m a w, SimM C s m a w → ∃ v, (∀ w', (execOp a.eval o).run P w' = .ok (.value v) w') ∧ RS w (Gd C s.rows m w) m s.rows.length sv v

section
variable {late : List Nat} {P : Program} {C : Ctx} {ops : Array Oper} {K : St → Prop} {s : St} {n : Nat} {listed : Array Bool} {t : Nat} {ty : TypeId} {pos : String} {af : Array Edge}

theorem l0_move {x : Operand} : Lt0 P C s ⟨some t, .move x, ty, pos, af, none⟩ (getO s.env x) := fun m a w hs => ⟨a.eval x, fun _ => rfl, hs.get x⟩
theorem l0_move_pv {x : Operand} {f : Bool} {p : PV} (hx : getO s.env x = .pv f p) : Lt0 P C s ⟨some t, .move x, ty, pos, af, none⟩ (.pv f p) := by rw [← hx]; exact l0_move
theorem l0_move_ref {x : Operand} {id : Nat} (hx : getO s.env x = .ref id) : Lt0 P C s ⟨some t, .move x, ty, pos, af, none⟩ (.ref id) := by rw [← hx]; exact l0_move
theorem vl_light0 (i : Nat) {o : Oper} {t : Nat} {sv : SV} (hi : ops[i]? = some o) (hd : o.dst = some t) (ht : Nat.blt t s.n = true) (hr : (Region.ready .any ops listed).contains i = true) (hns : Region.noSelect ops = true)
    (hf : Region.free .any ops listed i = true) (hw : Wnt C ops s o true) (hl : Lt0 P C s { o with guard := none } sv) (next : VL late P C ops n (listed.setIfInBounds i true) K (s.put t sv)) : VL late P C ops (n + 1) listed K s := by
  intro m a w hs
  obtain ⟨v, hrun, hv⟩ := hl m a w hs
  refine anyL_first0 hi (Region.noSelect_spec hns) post0_panic n listed a w (Region.free_spec hi hf) (by simpa using hr) (.inl ⟨hw m a w hs, hrun⟩) ?_
  rw [hd]
  exact next m _ _ (hs.put (blt_lt ht) hv)
end
end Go.Vl


/- A row that holds numbers alone points nowhere. -/
namespace Go.Vl
set_option linter.unusedVariables false
set_option linter.unusedSimpArgs false
open Go.RowKit

theorem clean_row {w : World} {G G' : Bool → Nat → Prop} {m m' : Nat → MV} {N N' : Nat} {mv : MV} {t : TypeId} {e : Nat} {nl : Option Bool} {f : Bool} {xs : List PV} (h : RowOK w G m N mv (.own t e nl f xs)) (hp : ∀ x ∈ xs, ∀ c ∈ x.cells, c.scal = true) :
    RowOK w G' m' N' mv (.own t e nl true xs) := by
  cases h with
  | own v t e nl f xs vs hown h1 h2 hw hr =>
    refine .own v t e nl true xs vs hown h1 h2 hw fun i x j c hx hc => ?_
    obtain ⟨u, hu, hq⟩ := hr i x j c hx hc
    exact ⟨u, hu, hq.scal_any (hp x (List.mem_of_getElem? hx) c (List.mem_of_getElem? hc))⟩

section
variable {P : Program} {C : Ctx} {Q : Go.Exit → St → Prop} {s : St} {ops : Array Oper}

theorem SimM.clean {m : Nat → MV} {a : Act} {w : World} (hs : SimM C s m a w) (id : Nat) {el e : Nat} {nl : Option Bool} {f : Bool} {xs : List PV} (hrow : s.rows[id]? = some (.own el e nl f xs)) (hp : ∀ x ∈ xs, ∀ c ∈ x.cells, c.scal = true) :
    SimM C ⟨s.n, s.env, s.rows.set id (.own el e nl true xs)⟩ m a w :=
  hs.storeRow (w' := w) (bo := none) ⟨_, hrow, rfl⟩ (fun _ e => by cases e) ⟨rfl, rfl, rfl, Nat.le_refl _, fun _ _ _ => rfl⟩ _ (fun hG => clean_row (hs.rows id _ hrow) hp)

theorem vo_clean {l : List Oper} (id : Nat) {el e : Nat} {nl : Option Bool} {f : Bool} {xs : List PV} (hrow : s.rows[id]? = some (.own el e nl f xs)) (hp : ∀ x ∈ xs, ∀ c ∈ x.cells, c.scal = true)
    (next : VO P C ops l Q ⟨s.n, s.env, s.rows.set id (.own el e nl true xs)⟩) : VO P C ops l Q s := fun a w ⟨m, hs⟩ => next a w ⟨m, hs.clean id hrow hp⟩
end
end Go.Vl


/- Statements at which two orders of evaluation are known: what holds in whatever order holds in both. -/
namespace Go.Vl
set_option linter.unusedVariables false
set_option linter.unusedSimpArgs false
open Go.RowKit

section
variable {P : Program} {ops : Array Oper} {Q : Go.Exit → Act → World → Prop}

/-- An order in which all can come. -/
def orderB (md : Region.Mode) (ops : Array Oper) : List Nat → List Nat → Bool
  | seen, [] => (List.range ops.size).all fun j => seen.contains j
  | seen, i :: r => (match ops[i]? with
    | some o => o.after.all fun e => !Region.binds md e || seen.contains e.on
    | none => true) && orderB md ops (i :: seen) r

end

end Go.Vl


/- Elements of several cells in a row of the call's own: one cell of them, or a part that is a struct, is read. -/
namespace Go.Vl
set_option linter.unusedVariables false
set_option linter.unusedSimpArgs false
open Go.RowKit

section
variable {P : Program} {C : Ctx} {Q : Go.Exit → St → Prop} {s : St} {ops : Array Oper} {rest : List Oper} {t : Nat} {ty : TypeId} {pos : String} {af : Array Edge}

/-- The cells of an element, as they lie. -/
theorem SimM.elem {m : Nat → MV} {a : Act} {w : World} (hs : SimM C s m a w) {x : Operand} {id R e i o : Nat} {nl : Option Bool} {fr : Bool} {xs : List PV} (hx : getO s.env x = .ptr id e i o) (hrow : s.rows[id]? = some (.own R e nl fr xs)) {p : PV} (hget : xs[i]? = some p) :
    ∃ (b : Nat) (f : Nat → Value), a.eval x = .pointer (some ⟨b, i * e + o, none⟩) ∧ p.fits e ∧ ∀ (j : Nat) (c : PV), p.cells[j]? = some c → w.cell? ⟨b, i * e + j, none⟩ = some (f j) ∧ RP w (Gd C s.rows m w fr) c (f j) := by
  obtain ⟨b, hv, hb, hid⟩ := hs.ptr hx
  have hR := hs.rows id _ hrow
  have hi := (List.getElem?_eq_some_iff.1 hget).1
  generalize hmv : m id = v at *
  cases hR with
  | own v t' e nl fr xs vs hown h1 h2 hw hr =>
    rcases hown.2 with ⟨rfl, hn0⟩ | ⟨g, cap, cur, rfl, _, hh, hle, hmx, hcs, htk⟩
    · omega
    · simp only [MV.of, blk, Option.some.injEq] at hb
      subst hb
      refine ⟨g, fun j => (vs[i * e + j]?).getD undef, hv, hw i p hget, fun j c hc => ?_⟩
      obtain ⟨u, hu, hpu⟩ := hr i p j c hget hc
      refine ⟨?_, by simp only [hu, Option.getD_some]; exact hpu⟩
      simp only [hu, Option.getD_some]; rw [cell_of_row w g _ cur R (0, 0) hh]
      rw [← htk, List.getElem?_take] at hu
      split at hu
      · simpa using hu
      · cases hu

/-- One cell of an element is read. -/
theorem lt_load_ownC {x : Operand} {T id R e i o : Nat} {nl : Option Bool} {fr : Bool} {xs : List PV} {p c d : PV} {D : TypeDesc} (hx : getO s.env x = .ptr id e i o) (hrow : s.rows[id]? = some (.own R e nl fr xs))
    (hT : P.underlying T = some D) (hD : (match D with | .struct _ | .array _ _ => true | _ => false) = false) (hi : i < xs.length) (hp : xs.getD i d = p) (hc : p.cells[o]? = some c) : Lt P C s ⟨some t, .load T x, ty, pos, af, none⟩ (.pv (fr || c.scal) c) := by
  intro m a w hs
  have hget : xs[i]? = some p := by rw [← hp]; simp [List.getD, List.getElem?_eq_getElem hi]
  obtain ⟨b, f, hv, hfit, hcl⟩ := hs.elem hx hrow hget
  obtain ⟨h1, h2⟩ := hcl o c hc
  refine ⟨f o, fun w' hw' => ?_, ?_⟩
  · have hcell := hw'.cell h1
    have hagg : (isAgg T).run P w' = .ok false w' := by
      cases D <;> simp_all [isAgg, run_underlying hT]
    simp [execOp, Instr.loadAt, hv, Instr.sureAddr, loadVar, hagg, load, Sem.run, hcell]
  · cases hsc : c.scal with
    | true => simp only [Bool.or_true]; exact .pv _ _ _ (h2.scal_any hsc)
    | false => simp only [Bool.or_false]; exact .pv _ _ _ h2

theorem vo_load_ownC {x : Operand} {T id R e i o : Nat} {nl : Option Bool} {fr : Bool} {xs : List PV} {p c d : PV} {D : TypeDesc} (ht : Nat.blt t s.n = true) (hx : getO s.env x = .ptr id e i o) (hrow : s.rows[id]? = some (.own R e nl fr xs))
    (hT : P.underlying T = some D) (hD : (match D with | .struct _ | .array _ _ => true | _ => false) = false) (hi : i < xs.length) (hp : xs.getD i d = p) (hc : p.cells[o]? = some c)
    (next : VO P C ops rest Q (s.put t (.pv (fr || c.scal) c))) : VO P C ops (⟨some t, .load T x, ty, pos, af, none⟩ :: rest) Q s :=
  vo_pure ht (lt_load_ownC hx hrow hT hD hi hp hc) next

/-- A struct in an element is read. -/
theorem lt_load_ownS {x : Operand} {T id R e i o n : Nat} {nl : Option Bool} {fr : Bool} {xs : List PV} {p d : PV} {D : TypeDesc} {inf : TypeInfo} (hx : getO s.env x = .ptr id e i o) (hrow : s.rows[id]? = some (.own R e nl fr xs))
    (hT : P.underlying T = some D) (hD : D.isRow = true) (hinf : P.info? T = some inf) (hsz : inf.size = n) (hi : i < xs.length) (hp : xs.getD i d = p) (hle : o + n ≤ p.cells.length) :
    Lt P C s ⟨some t, .load T x, ty, pos, af, none⟩ (.pv fr (.agg ((p.cells.drop o).take n))) := by
  intro m a w hs
  have hget : xs[i]? = some p := by rw [← hp]; simp [List.getD, List.getElem?_eq_getElem hi]
  obtain ⟨b, f, hv, hfit, hcl⟩ := hs.elem hx hrow hget
  have hlen : ((List.range n).map fun j => f (o + j)).length = n := by simp
  refine ⟨.agg ((List.range n).map fun j => f (o + j)).toArray, fun w' hw' => ?_, ?_⟩
  · have := run_loadAt_mid (P := P) w' b (i * e + o) T ((List.range n).map fun j => f (o + j)) D (fun j u hj => ?_) hT hD (by rw [hinf]; simp [hsz])
    · simp [execOp, hv, this]
    · have hjn : j < n := by rw [← hlen]; exact (List.getElem?_eq_some_iff.1 hj).1
      simp [hjn] at hj
      subst hj
      have := (hcl (o + j) _ (List.getElem?_eq_getElem (by omega))).1
      rw [show i * e + o + j = i * e + (o + j) by omega]
      exact hw'.cell this
  · refine .pv _ _ _ (.agg _ _ (by simp; omega) (fun j c hj => ?_) (fun j c u hj hu => ?_))
    · rw [List.getElem?_take] at hj
      split at hj
      · rw [List.getElem?_drop] at hj; exact hfit.2 _ c hj
      · cases hj
    · rw [List.getElem?_take] at hj
      split at hj
      · rename_i hjn
        rw [List.getElem?_drop] at hj
        simp [hjn] at hu
        subst hu
        exact (hcl _ c hj).2
      · cases hj

theorem vo_load_ownS {x : Operand} {T id R e i o n : Nat} {nl : Option Bool} {fr : Bool} {xs : List PV} {p d : PV} {D : TypeDesc} {inf : TypeInfo} (ht : Nat.blt t s.n = true) (hx : getO s.env x = .ptr id e i o) (hrow : s.rows[id]? = some (.own R e nl fr xs))
    (hT : P.underlying T = some D) (hD : D.isRow = true) (hinf : P.info? T = some inf) (hsz : inf.size = n) (hi : i < xs.length) (hp : xs.getD i d = p) (hle : o + n ≤ p.cells.length)
    (next : VO P C ops rest Q (s.put t (.pv fr (.agg ((p.cells.drop o).take n))))) : VO P C ops (⟨some t, .load T x, ty, pos, af, none⟩ :: rest) Q s :=
  vo_pure ht (lt_load_ownS hx hrow hT hD hinf hsz hi hp hle) next
end
end Go.Vl


/- A row takes another one in and may move: 'append' of a slice that is the program's own to a row whose slices are its own. -/
namespace Go.Vl
set_option linter.unusedVariables false
set_option linter.unusedSimpArgs false
open Go.RowKit

end Go.Vl


/- Rows whose slices are their own: a slice literal of one such slice, and 'append'. -/
namespace Go.Vl
set_option linter.unusedVariables false
set_option linter.unusedSimpArgs false
open Go.RowKit

section
variable {P : Program} {C : Ctx} {Q : Go.Exit → St → Prop} {s : St} {ops : Array Oper} {rest : List Oper} {t : Nat} {ty : TypeId} {pos : String} {af : Array Edge}

end
end Go.Vl


/- A row whose slices are its own becomes a row of slices that are read alone. -/
namespace Go.Vl
set_option linter.unusedVariables false
set_option linter.unusedSimpArgs false
open Go.RowKit
section
variable {P : Program} {C : Ctx} {Q : Go.Exit → St → Prop} {s : St} {ops : Array Oper}

end
end Go.Vl


/- Structs whose cells are rows of the call's own: built, boxed, read, written. -/
namespace Go.Vl
set_option linter.unusedVariables false
set_option linter.unusedSimpArgs false
open Go.RowKit

def cellsG : SV → Option (List SV)
  | .ag ys => some ys
  | .pv f p => some (p.cells.map fun c => .pv (f || c.scal) c)
  | .ref id => some [.ref id]
  | .ptr id e i o => some [.ptr id e i o]
  | _ => none

def okG (rows : List Row) : SV → Bool
  | .ref id => match rows[id]? with
    | some r => r.live
    | none => false
  | _ => true

section
variable {P : Program} {C : Ctx} {Q : Go.Exit → St → Prop} {s : St}
variable {ops : Array Oper} {rest : List Oper} {t : Nat} {ty : TypeId} {pos : String} {af : Array Edge}

theorem row_one {w : World} {G : Bool → Nat → Prop} {m : Nat → MV} {N : Nat} {mv : MV} {r : Row} (h : RowOK w G m N mv r) (hl : r.live = true) : mv.v.oneCell' = true := by
  cases h with
  | dead => cases hl
  | gh => cases hl
  | own v t e nl fr xs vs hown => rcases hown.2 with ⟨rfl, _⟩ | ⟨g, cap, cur, rfl, _⟩ <;> rfl
  | var => rfl
  | mp => rfl
  | tree mv t e nl h xs vals Sf hown => rcases hown.2 with ⟨h, _⟩ | ⟨g, cap, cur, h, _⟩ <;> rw [h] <;> rfl

theorem cells_one {v : Value} (h : v.oneCell' = true) : v.cells = #[v] := by cases v <;> simp_all [Value.cells, Value.oneCell']

theorem SimM.cellsG {m : Nat → MV} {a : Act} {w : World} (h : SimM C s m a w) {x : Operand} {ys : List SV} (hy : cellsG (getO s.env x) = some ys) (hok : okG s.rows (getO s.env x) = true) :
    (a.eval x).cells.size = ys.length ∧ (∀ (j : Nat) (c : SV) (u : Value), ys[j]? = some c → (a.eval x).cells[j]? = some u → RS w (Gd C s.rows m w) m s.rows.length c u) ∧
      (∀ (j : Nat) (u : Value), (a.eval x).cells[j]? = some u → u.oneCell' = true) := by
  have hv := h.get x
  have one : ∀ (sv : SV) (v : Value), RS w (Gd C s.rows m w) m s.rows.length sv v → v.oneCell' = true → ys = [sv] →
      v.cells.size = ys.length ∧ (∀ (j : Nat) (c : SV) (u : Value), ys[j]? = some c → v.cells[j]? = some u → RS w (Gd C s.rows m w) m s.rows.length c u) ∧ (∀ (j : Nat) (u : Value), v.cells[j]? = some u → u.oneCell' = true) := by
    intro sv v hr h1 e
    subst e
    rw [cells_one h1]
    refine ⟨rfl, fun j c u hc hu => ?_, fun j u hu => ?_⟩
    · match j, hc, hu with
      | 0, hc, hu => simp at hc hu; subst hc; subst hu; exact hr
    · match j, hu with
      | 0, hu => simp at hu; subst hu; exact h1
  generalize getO s.env x = sv at *
  generalize a.eval x = v at *
  cases hv with
  | any => cases hy
  | val => cases hy
  | und => cases hy
  | adr => cases hy
  | tup => cases hy
  | sub => cases hy
  | ag vs us hl h9 h1 => cases hy; exact ⟨hl, h9, h1⟩
  | ref id hid =>
    simp only [Vl.cellsG, Option.some.injEq] at hy
    simp only [okG] at hok
    split at hok
    · rename_i r hr
      exact one _ _ (.ref id hid) (row_one (h.rows id r hr) hok) hy.symm
    · cases hok
  | ptr id e i o b hid hb =>
    simp only [Vl.cellsG, Option.some.injEq] at hy
    exact one _ _ (.ptr id e i o b hid hb) rfl hy.symm
  | pv fr p v hp =>
    simp only [Vl.cellsG, Option.some.injEq] at hy
    subst hy
    have hc := hp.cells
    refine ⟨by simpa using hc.1, fun j c u hcj hu => ?_, fun j u hu => ?_⟩
    · simp only [List.getElem?_map, Option.map_eq_some_iff] at hcj
      obtain ⟨c', hc', rfl⟩ := hcj
      obtain ⟨u', hu', hp'⟩ := hc.2 j c' hc'
      rw [hu] at hu'
      cases hu'
      cases hsc : c'.scal with
      | true => simp only [Bool.or_true]; exact .pv _ _ _ (hp'.scal_any hsc)
      | false => simp only [Bool.or_false]; exact .pv _ _ _ hp'
    · have hj : j < p.cells.length := by rw [← hc.1]; exact (Array.getElem?_eq_some_iff.1 hu).1
      obtain ⟨u', hu', hp'⟩ := hc.2 j _ (List.getElem?_eq_getElem hj)
      rw [hu] at hu'
      cases hu'
      refine hp'.oneCell ?_
      cases hp with
      | agg cs vs hl h1 h9 => exact h1 j _ (List.getElem?_eq_getElem hj)
      | _ => simp only [PV.cells] at hj ⊢; have : j = 0 := by simpa using hj
             subst this; rfl

def applyG (pl : List (Nat × Nat)) : List SV → List (Nat × List SV) → Option (List SV)
  | cs, [] => some cs
  | cs, (k, p) :: r => match pl[k]? with
    | some (off, sz) => bif Nat.beq p.length sz && Nat.ble (off + sz) cs.length then applyG pl (cs.take off ++ p ++ cs.drop (off + sz)) r else none
    | none => none

def collectG (env : List (Nat × SV)) (rows : List Row) : List (Nat × Operand) → Option (List (Nat × List SV))
  | [] => some []
  | (k, x) :: r => match cellsG (getO env x), collectG env rows r with
    | some ys, some ps => bif okG rows (getO env x) then some ((k, ys) :: ps) else none
    | _, _ => none

end
end Go.Vl


/- 'append' to a row whose cells' type is not known (it was taken out of another), and a tree's cell that is known. -/
namespace Go.Vl
set_option linter.unusedVariables false
set_option linter.unusedSimpArgs false
open Go.RowKit
section
variable {P : Program} {C : Ctx} {Q : Go.Exit → St → Prop} {s : St} {ops : Array Oper} {rest : List Oper} {t : Nat} {ty : TypeId} {pos : String} {af : Array Edge}

end
section
variable {late : List Nat} {P : Program} {C : Ctx} {ops : Array Oper} {K : St → Prop} {s s1 : St} {n : Nat} {listed : Array Bool}
def StepV (late : List Nat) (P : Program) (C : Ctx) (ops : Array Oper) (n : Nat) (listed : Array Bool) (K : St → Prop) (s : St) (i : Nat) : Prop :=
  ∀ m a w, SimM C s m a w → wpOp P ops (post0 C K) i (fun a' w' => (ExtW w w' ∨ late.contains i = true) ∧ anyL late P ops (post0 C K) n (listed.setIfInBounds i true) a' w') a w
end
end Go.Vl


/- Rows of structs whose slices are their own: an element's slices are taken out as rows, and put back. -/
namespace Go.Vl
set_option linter.unusedVariables false
set_option linter.unusedSimpArgs false
open Go.RowKit

theorem grown_refl (w : World) : w.grownBy w none := ⟨rfl, rfl, rfl, Nat.le_refl _, fun _ _ _ => rfl⟩

def okTake : PV → Bool
  | .sl _ _ _ => true
  | c => c.scal

def takePV (c : PV) : PV := match c with
  | .sl _ _ _ => .gone
  | c => c

def takeP : PV → PV
  | .agg cs => .agg (cs.map takePV)
  | c => takePV c

def takeSV : Nat → List PV → List SV
  | _, [] => []
  | N, .sl _ _ _ :: cs => .ref N :: takeSV (N + 1) cs
  | N, c :: cs => .pv true c :: takeSV N cs

def takeRows (Rf : Nat → TypeId) : Nat → List PV → List Row
  | _, [] => []
  | k, .sl nl e xs :: cs => .tree (Rf k) e nl none xs :: takeRows Rf (k + 1) cs
  | k, _ :: cs => takeRows Rf k cs

/-- The places of the slices among cells. -/
def takePos : Nat → List PV → List Nat
  | _, [] => []
  | j, .sl _ _ _ :: cs => j :: takePos (j + 1) cs
  | j, _ :: cs => takePos (j + 1) cs

section
variable {P : Program} {C : Ctx} {Q : Go.Exit → St → Prop} {s : St} {ops : Array Oper} {rest : List Oper} {t : Nat} {ty : TypeId} {pos : String} {af : Array Edge}

end
end Go.Vl


/- An element's slices are put back into a row whose slices are its own; literals of such elements, and 'append'. -/
namespace Go.Vl
set_option linter.unusedVariables false
set_option linter.unusedSimpArgs false
open Go.RowKit

def deadAll (ks : List Nat) (rows : List Row) : List Row := ks.foldl (fun r k => r.set k .dead) rows

def refsOf : List SV → List Nat
  | [] => []
  | .ref k :: r => k :: refsOf r
  | _ :: r => refsOf r

/-- What goes into a cell. -/
def pvT (rows : List Row) : SV → Option PV
  | .pv _ c => bif c.scal then some c else none
  | .ref k => match rows[k]? with
    | some (.tree _ e nl none xs) => some (.sl nl e xs)
    | _ => none
  | _ => none

def pvTs (rows : List Row) : List SV → Option (List PV)
  | [] => some []
  | y :: ys => match pvT rows y, pvTs rows ys with
    | some p, some ps => some (p :: ps)
    | _, _ => none

/-- The blocks of a cell's own. -/
def sOf (m : Nat → MV) (ys : List SV) (j b : Nat) : Prop := ∃ k, ys[j]? = some (.ref k) ∧ (m k).S b

section
variable {P : Program} {C : Ctx} {Q : Go.Exit → St → Prop} {s : St} {ops : Array Oper} {rest : List Oper} {t : Nat} {ty : TypeId} {pos : String} {af : Array Edge}

end
end Go.Vl


/- Literals of elements whose slices are their own; 'append' of them; their plain cells. -/
namespace Go.Vl
set_option linter.unusedVariables false
set_option linter.unusedSimpArgs false
open Go.RowKit

section
variable {P : Program} {C : Ctx} {Q : Go.Exit → St → Prop} {s : St} {ops : Array Oper} {rest : List Oper} {t : Nat} {ty : TypeId} {pos : String} {af : Array Edge}

end
end Go.Vl


/- Maps from numbers to numbers that the call made itself. -/
namespace Go.Vl
set_option linter.unusedVariables false
set_option linter.unusedSimpArgs false
open Go.RowKit

def mapI (h : Int → Option Int) : Int → Option PV := fun k => (h k).map intP
def updI (h : Int → Option Int) (k v : Int) : Int → Option Int := fun j => if j = k then some v else h j
def delI (h : Int → Option Int) (k : Int) : Int → Option Int := fun j => if j = k then none else h j
def nilI : Int → Option Int := fun _ => none

section
variable {P : Program} {C : Ctx} {Q : Go.Exit → St → Prop} {s : St} {ops : Array Oper} {rest : List Oper} {t : Nat} {ty : TypeId} {pos : String} {af : Array Edge}

end
end Go.Vl


/- Parts of a slice of the call's own: 'append(x[:i], x[j:]...)', a slice cut shorter, 'clear' behind its end. -/
namespace Go.Vl
set_option linter.unusedVariables false
set_option linter.unusedSimpArgs false
open Go.RowKit

theorem sliceBounds_ok {P : Program} {C : Ctx} {s : St} {m : Nat → MV} {a : Act} {w w1 : World} (hs : SimM C s m a w) {lo hi : Option Operand} {l' h' len cap d : Nat}
    (hl : bnd s.env lo 0 = some (l' : Int)) (hh : bnd s.env hi d = some (h' : Int)) (hd : hi = none → len = d) (h1 : l' ≤ h') (h2 : h' ≤ cap) : (Instr.sliceBounds true len cap (lo.map a.eval) (hi.map a.eval) none).run P w1 = .ok (l', h', cap) w1 := by
  have r1 : ∀ y code, l' ≤ y → ∀ o, lo = some o → (Instr.sliceBound (a.eval o) y code).run P w1 = .ok l' w1 := by
    intro y code hy o ho
    subst ho
    simp only [bnd] at hl
    split at hl
    · rename_i f' k' n' he
      simp at hl
      subst hl
      have := hs.bnd_run (P := P) (w1 := w1) (y := y) (code := code) he (by omega) (by omega)
      simpa using this
    · simp at hl
  have r2 : ∀ y code, h' ≤ y → ∀ o, hi = some o → (Instr.sliceBound (a.eval o) y code).run P w1 = .ok h' w1 := by
    intro y code hy o ho
    subst ho
    simp only [bnd] at hh
    split at hh
    · rename_i f' k' n' he
      simp at hh
      subst hh
      have := hs.bnd_run (P := P) (w1 := w1) (y := y) (code := code) he (by omega) (by omega)
      simpa using this
    · simp at hh
  cases lo with
  | none =>
    simp [bnd] at hl
    cases hi with
    | none => have := hd rfl; simp [bnd] at hh; simp [Instr.sliceBounds]; omega
    | some o => simp [Instr.sliceBounds, r2 _ _ h2 o rfl]; omega
  | some ol =>
    cases hi with
    | none =>
      have := hd rfl
      simp [bnd] at hh
      have hh : len = h' := by omega
      subst hh
      simp [Instr.sliceBounds, r1 len _ h1 ol rfl]
    | some o => simp [Instr.sliceBounds, r2 _ _ h2 o rfl, r1 h' _ h1 ol rfl]

section
variable {P : Program} {C : Ctx} {Q : Go.Exit → St → Prop} {s : St} {ops : Array Oper} {rest : List Oper} {t : Nat} {ty : TypeId} {pos : String} {af : Array Edge}

theorem addr_mul (b q : Nat) : (⟨b, 0, none⟩ : Addr).add q = ⟨b, q, none⟩ := by
  unfold Addr.add
  split
  · rename_i h; simp [h]
  · simp

/-- A part of a row that is a slice. -/
theorem lt_slice_ref {x : Operand} {lo hi : Option Operand} {id R e : Nat} {nl : Option Bool} {xs : List PV} {T el : TypeId} {inf : TypeInfo} {l h : Int}
    (hx : getO s.env x = .ref id) (hrow : (s.rows[id]?).bind Row.sl = some (R, e, nl, xs)) (hl : bnd s.env lo 0 = some l) (hh : bnd s.env hi xs.length = some h)
    (hT : P.underlying T = some (.slice el)) (hinf : P.info? el = some inf) (hsz : inf.size = e) (h0 : 0 ≤ l) (h1 : l ≤ h) (h2 : h ≤ xs.length) :
    Lt P C s ⟨some t, .slice T x lo hi none, ty, pos, af, none⟩ (.sub id e l.toNat h.toNat xs.length) := by
  intro m a w hs
  obtain ⟨hv, hid⟩ := hs.row hx
  obtain ⟨⟨vals, hown⟩, _, _, _⟩ := hs.sl hrow
  obtain ⟨l', rfl⟩ := Int.eq_ofNat_of_zero_le h0
  obtain ⟨h', rfl⟩ := Int.eq_ofNat_of_zero_le (Int.le_trans h0 h1)
  simp only [Int.toNat_natCast]
  have g1 : l' ≤ h' := by omega
  have g2 : h' ≤ xs.length := by omega
  rcases hown.2 with ⟨e0, hn0⟩ | ⟨g, cap, cur, e0, _, hh', hle, hmx, hsz', htk⟩
  · have hb := fun w1 => sliceBounds_ok (P := P) (w1 := w1) (len := 0) (cap := 0) hs hl hh (fun _ => hn0.symm) g1 (by omega)
    have hl0 : l' = 0 := by omega
    have hh0 : h' = 0 := by omega
    subst hl0; subst hh0
    rw [e0] at hv
    refine ⟨.slice none 0 0, fun w1 _ => ?_, .sub id e 0 0 xs.length _ hid (.inl ⟨e0, rfl, rfl, hn0, rfl⟩)⟩
    simp [execOp, Instr.sliceAt, Instr.slice, run_underlying hT, hv, hb w1, sizeOf, typeInfo, hinf, hsz]
  · have hb := fun w1 => sliceBounds_ok (P := P) (w1 := w1) (len := xs.length) (cap := cap) hs hl hh (fun _ => rfl) g1 (by omega)
    rw [e0] at hv
    refine ⟨.slice (some (if cap = l' then ⟨g, 0, none⟩ else ⟨g, l' * e, none⟩)) (h' - l') (cap - l'), fun w1 _ => ?_, .sub id e l' h' xs.length _ hid (.inr ⟨g, xs.length, cap, e0, g1, g2, hle, rfl⟩)⟩
    have hA : (if cap = l' then some (⟨g, 0, none⟩ : Addr) else some ((⟨g, 0, none⟩ : Addr).add (l' * e))) = some (if cap = l' then ⟨g, 0, none⟩ else ⟨g, l' * e, none⟩) := by
      split <;> simp [addr_mul]
    simp [execOp, Instr.sliceAt, Instr.slice, run_underlying hT, hv, hb w1, sizeOf, typeInfo, hinf, hsz, hA]

theorem vo_slice_ref {x : Operand} {lo hi : Option Operand} {id R e : Nat} {nl : Option Bool} {xs : List PV} {T el : TypeId} {inf : TypeInfo} {l h : Int} (ht : Nat.blt t s.n = true)
    (hx : getO s.env x = .ref id) (hrow : (s.rows[id]?).bind Row.sl = some (R, e, nl, xs)) (hl : bnd s.env lo 0 = some l) (hh : bnd s.env hi xs.length = some h)
    (hT : P.underlying T = some (.slice el)) (hinf : P.info? el = some inf) (hsz : inf.size = e) (h0 : 0 ≤ l) (h1 : l ≤ h) (h2 : h ≤ xs.length)
    (next : VO P C ops rest Q (s.put t (.sub id e l.toNat h.toNat xs.length))) : VO P C ops (⟨some t, .slice T x lo hi none, ty, pos, af, none⟩ :: rest) Q s := vo_pure ht (lt_slice_ref hx hrow hl hh hT hinf hsz h0 h1 h2) next

theorem SimM.sub {m : Nat → MV} {a : Act} {w : World} (hs : SimM C s m a w) {x : Operand} {id e l h c : Nat} (hx : getO s.env x = .sub id e l h c) : isSub (m id).v e l h c (a.eval x) ∧ id < s.rows.length := by
  have := hs.get x
  rw [hx] at this
  generalize a.eval x = v at this
  cases this with
  | sub _ _ _ _ _ _ hid hs => exact ⟨hs, hid⟩

theorem run_append_roomR (w : World) (t ty e R : TypeId) (i : TypeInfo) (ht : P.underlying t = some (.slice e)) (hi : P.info? e = some i)
    (g sLen sCap : Nat) (cur : Array Value) (hg : w.heap[g]? = some (.cells cur R (0, 0)))
    (a : Addr) (m c : Nat) (news : List Value) (hl : news.length = m * i.size) (hnews : ∀ j u, news[j]? = some u → w.cell? (a.add j) = some u) (h1 : ∀ u ∈ news, u.oneCell' = true)
    (hroom : sLen + m ≤ sCap) (hfit : sLen * i.size + news.length ≤ cur.size) :
    (Builtin.append_ #[t, t] ty #[.slice (some ⟨g, 0, none⟩) sLen sCap, .slice (some a) m c]).run P w =
      .ok (.slice (some ⟨g, 0, none⟩) (sLen + m) sCap) (w.setRow g (cur.toList.take (sLen * i.size) ++ news ++ cur.toList.drop (sLen * i.size + news.length)).toArray) := by
  have hf := run_firstCells_some (P := P) w i.size m a m c news hl hnews
  have hst := run_storeCells_at P g (sLen * i.size) R news 0 cur w hg (by simpa using hfit) h1
  simp only [Nat.add_zero] at hst
  simp [Builtin.append_, run_underlying ht, sizeOf, typeInfo, hi, Builtin.lenOf, hroom, hf, Addr.add_lit, hst]

/-- 'append(x[:i], x[j:]...)'. -/
theorem vo_append_del {x y : Operand} {id i j n c c' T el R e : Nat} {nl : Option Bool} {fr : Bool} {xs : List PV} {inf : TypeInfo} (ht : Nat.blt t s.n = true) (hnb : C.nb ≤ id)
    (hx : getO s.env x = .sub id e 0 i c) (hy : getO s.env y = .sub id e j n c') (hrow : s.rows[id]? = some (.own R e nl fr xs)) (hn : n = xs.length) (hij : i ≤ j) (hjn : j ≤ n) (hnc : n ≤ c)
    (hT : P.underlying T = some (.slice el)) (hinf : P.info? el = some inf) (hsz : inf.size = e)
    (next : VO P C ops rest Q ⟨s.n, (t, .sub id e 0 (i + (n - j)) c) :: killE id s.env, (s.rows.map (Row.kill id)).set id (.own R e nl fr (xs.take i ++ xs.drop j))⟩) :
    VO P C ops (⟨some t, .call ⟨.builtin .append, #[x, y], #[T, T]⟩, ty, pos, af, none⟩ :: rest) Q s := by
  refine vo_value (s1 := ⟨s.n, killE id s.env, (s.rows.map (Row.kill id)).set id (Row.own R e nl fr (xs.take i ++ xs.drop j))⟩) (sv := .sub id e 0 (i + (n - j)) c) ht (fun m a w hs => ?_) next
  subst hn
  obtain ⟨hvx, hid⟩ := hs.sub hx
  obtain ⟨hvy, _⟩ := hs.sub hy
  have hlid : liveAt s.rows id := ⟨_, hrow, rfl⟩
  have hR := hs.rows id _ hrow
  have hxl : (xs.take i ++ xs.drop j).length = i + (xs.length - j) := by simp; omega
  generalize hmv : m id = mv at *
  cases hR with
  | own v t' e nl fr xs vs hown h1 h2 hw hr =>
  have hvl : vs.length = xs.length * e := hown.1
  rcases hvx with ⟨x0, _, x1, x2, x3⟩ | ⟨b, n0, cap, x0, x1, x2, x3, x4⟩
  · -- nothing is there
    have hxs0 : xs.length = 0 := by
      rcases hown.2 with ⟨_, h⟩ | ⟨g, cap, cur, e0, _⟩
      · exact h
      · rw [show v = Value.slice none 0 0 from x0] at e0; cases e0
    have hxs : xs = [] := List.eq_nil_of_length_eq_zero hxs0
    have hj0 : j = 0 := by omega
    subst hj0
    have hi0 : i = 0 := x1
    subst hi0
    rcases hvy with ⟨_, _, _, _, y3⟩ | ⟨b, n0, cap, y0, _⟩
    · have hg := grown_refl w
      have hmove := hs.moveRow (id := id) hlid hnb (w' := w) (bo := none) (fun b h => by cases h) hg (.own R e nl fr (xs.take 0 ++ xs.drop 0)) (.of v) rfl (fun b hb => .inl (by rw [hmv]; exact hb)) (fun hG => by
        have : xs.take 0 ++ xs.drop 0 = xs := by simp
        rw [this]
        exact .own v R e nl fr xs vs hown h1 h2 hw (fun k y jj c hy hc => let ⟨u, hu, hp⟩ := hr k y jj c hy hc; ⟨u, hu, hp.mono (hG fr)⟩))
      refine ⟨.slice none 0 0, w, _, ?_, hmove, ?_⟩
      · have hyv : a.eval y = .slice none 0 0 := y3
        have hxv : a.eval x = .slice none 0 0 := x3
        simp [execOp, resolve, invoke, builtin, Builtin.append_, hxv, hyv, run_underlying hT, sizeOf, typeInfo, hinf, Builtin.lenOf, Builtin.firstCells]
      · refine .sub id e 0 _ c _ (by simp; exact hid) (.inl ⟨by rw [updM_same]; exact x0, rfl, by omega, x2, rfl⟩)
    · have : v = Value.slice none 0 0 := x0
      have y0 : v = _ := y0
      rw [this] at y0; cases y0
  · have x0 : v = .slice (some ⟨b, 0, none⟩) n0 cap := x0
    rcases hown.2 with ⟨e0, _⟩ | ⟨g, cap', cur, e0, _, hheap, hle, hmx, hcs, htk⟩
    · rw [e0] at x0; cases x0
    · have hbg := x0.symm.trans e0
      injection hbg with q1 q2 q3
      injection q1 with q1
      injection q1 with q1
      subst q1; subst q2; subst q3
      rcases hvy with ⟨y0, _⟩ | ⟨b', n0', cap'', y0, y1, y2, y3, y4⟩
      · have y0 : v = _ := y0
        rw [e0] at y0; cases y0
      · have y0 : v = _ := y0
        have hbg := y0.symm.trans e0
        injection hbg with q1 q2 q3
        injection q1 with q1
        injection q1 with q1
        subst q1; subst q2; subst q3
        have hxv : a.eval x = .slice (some ⟨b', 0, none⟩) i cap'' := by
          rw [x4]
          have : (if cap'' = 0 then (⟨b', 0, none⟩ : Addr) else ⟨b', 0 * e, none⟩) = ⟨b', 0, none⟩ := by split <;> simp
          rw [this]; simp
        let news := vs.drop (j * e)
        have hnl : news.length = (xs.length - j) * e := by simp [news, hvl, Nat.sub_mul]
        have hle2 : xs.length * e ≤ cap'' * e := Nat.mul_le_mul_right e hle
        have hje : j * e ≤ xs.length * e := Nat.mul_le_mul_right e hjn
        have hie : i * e ≤ j * e := Nat.mul_le_mul_right e hij
        have hcell : ∀ q, q < xs.length * e → w.cell? ⟨b', q, none⟩ = vs[q]? := by
          intro q hq
          rw [cell_of_row w b' _ cur R (0, 0) hheap, ← htk, List.getElem?_take, if_pos hq]
          simp
        have hone : ∀ u ∈ news, u.oneCell' = true := by
          intro u hu
          obtain ⟨q, hq⟩ := List.getElem?_of_mem (List.mem_of_mem_drop hu)
          have hq1 : q < xs.length * e := by rw [← hvl]; exact (List.getElem?_eq_some_iff.1 hq).1
          obtain ⟨x9, c9, u9, hx9, hc9, hu9, e9⟩ := cellAt hown hw hq1
          obtain ⟨u8, hu8, hp8⟩ := hr _ x9 _ c9 hx9 hc9
          rw [e9] at hu8
          rw [hq] at hu8
          cases hu8
          exact hp8.oneCell ((hw _ x9 hx9).2 _ c9 hc9)
        have hrun := run_append_roomR (P := P) w T ty el R inf hT hinf b' i cap'' cur hheap (if cap'' = j then ⟨b', 0, none⟩ else ⟨b', j * e, none⟩) (xs.length - j) (cap'' - j) news (by rw [hnl, hsz]) (fun q u hu => by
          have hq : q < news.length := (List.getElem?_eq_some_iff.1 hu).1
          rw [hnl] at hq
          have hne : cap'' ≠ j := by
            intro h9
            have : xs.length - j = 0 := by omega
            rw [this] at hq; omega
          rw [if_neg hne]
          have hadd : (⟨b', j * e, none⟩ : Addr).add q = ⟨b', j * e + q, none⟩ := by
            unfold Addr.add
            split
            · rename_i hz; simp [hz]
            · simp
          have hlt : j * e + q < xs.length * e := by
            have : (xs.length - j) * e = xs.length * e - j * e := Nat.sub_mul ..
            omega
          rw [hadd, hcell _ hlt]
          simpa [news] using hu) hone (by omega) (by rw [hsz, hnl, hcs, ← Nat.add_mul]; exact Nat.mul_le_mul_right e (by omega))
        let cur' := (cur.toList.take (i * inf.size) ++ news ++ cur.toList.drop (i * inf.size + news.length)).toArray
        have hheap' := setRow_heap w b' cur cur' R _ hheap
        have hvs' : (vs.take (i * e) ++ vs.drop (j * e)).length = (xs.take i ++ xs.drop j).length * e := by
          rw [hxl, Nat.add_mul, Nat.sub_mul]
          simp only [List.length_append, List.length_take, List.length_drop, hvl]
          omega
        have hmove := hs.moveRow (id := id) hlid hnb (w' := w.setRow b' cur') (bo := some b') (fun b9 h => by cases h; rw [hmv]; show blk v = some b'; rw [e0]; rfl) (grown_setRow w b' cur') (.own R e nl fr (xs.take i ++ xs.drop j)) (.of (.slice (some ⟨b', 0, none⟩) (i + (xs.length - j)) cap'')) rfl
          (fun b9 hb => .inl (by rw [hmv]; show blk v = some b9; rw [e0]; exact hb)) (fun hG => by
            refine .own _ R e nl fr _ (vs.take (i * e) ++ vs.drop (j * e)) ⟨hvs', .inr ⟨b', cap'', cur', by rw [hxl], Nat.zero_le _, hheap', by rw [hxl]; omega, hmx, ?_, ?_⟩⟩ (fun h => by have := h1 h; rw [e0] at this; cases this) (fun _ h => by cases h) (fun k y hy => ?_) (fun k y jj cc hy hc => ?_)
            · simp only [cur', List.size_toArray, List.length_append, List.length_take, List.length_drop, Array.length_toList, hsz, hnl]
              have : (xs.length - j) * e = xs.length * e - j * e := Nat.sub_mul ..
              omega
            · rw [hxl]
              show List.take _ (cur.toList.take (i * inf.size) ++ news ++ cur.toList.drop (i * inf.size + news.length)) = _
              have hl9 : (cur.toList.take (i * inf.size) ++ news).length = (i + (xs.length - j)) * e := by
                rw [List.length_append, hnl, List.length_take, hsz, Nat.add_mul, Array.length_toList]
                omega
              rw [← hl9, List.take_left', hsz]
              · congr 1
                rw [← htk, List.take_take]
                congr 1
                omega
              · rfl
            · rw [List.getElem?_append] at hy
              split at hy
              · rw [List.getElem?_take] at hy
                split at hy
                · exact hw k y hy
                · cases hy
              · rw [List.getElem?_drop] at hy; exact hw _ y hy
            · have hti : (xs.take i).length = i := by simp; omega
              rw [List.getElem?_append, hti] at hy
              have hvt : (vs.take (i * e)).length = i * e := by rw [List.length_take, hvl]; omega
              split at hy
              · rename_i hki
                rw [List.getElem?_take, if_pos hki] at hy
                have hjj : jj < e := by rw [← (hw k y hy).1]; exact (List.getElem?_eq_some_iff.1 hc).1
                obtain ⟨u, hu, hp⟩ := hr k y jj cc hy hc
                have hlt : k * e + jj < i * e := by
                  have := Nat.mul_le_mul_right e (show k + 1 ≤ i by omega)
                  rw [Nat.add_mul] at this
                  omega
                refine ⟨u, ?_, hp.mono (hG fr)⟩
                rw [List.getElem?_append, hvt, if_pos hlt, List.getElem?_take, if_pos hlt]
                exact hu
              · rename_i hki
                rw [List.getElem?_drop] at hy
                have hjj : jj < e := by rw [← (hw _ y hy).1]; exact (List.getElem?_eq_some_iff.1 hc).1
                obtain ⟨u, hu, hp⟩ := hr _ y jj cc hy hc
                have hge : i * e ≤ k * e := Nat.mul_le_mul_right e (by omega)
                refine ⟨u, ?_, hp.mono (hG fr)⟩
                rw [List.getElem?_append, hvt, if_neg (by omega), List.getElem?_drop]
                rw [← hu]
                congr 1
                have e1 : (j + (k - i)) * e = j * e + (k * e - i * e) := by rw [Nat.add_mul, Nat.sub_mul]
                rw [e1]
                omega)
        refine ⟨.slice (some ⟨b', 0, none⟩) (i + (xs.length - j)) cap'', _, _, ?_, hmove, ?_⟩
        · have hyv : a.eval y = .slice (some (if cap'' = j then ⟨b', 0, none⟩ else ⟨b', j * e, none⟩)) (xs.length - j) (cap'' - j) := y4
          simp only [execOp, resolve, invoke, builtin]
          simp [hxv, hyv, hrun, cur']
        · refine .sub id e 0 _ c _ (by simp; exact hid) (.inr ⟨b', i + (xs.length - j), cap'', by rw [updM_same]; rfl, Nat.zero_le _, by omega, x3, ?_⟩)
          have : (if cap'' = 0 then (⟨b', 0, none⟩ : Addr) else ⟨b', 0 * e, none⟩) = ⟨b', 0, none⟩ := by split <;> simp
          rw [this]; simp

theorem isSub_whole {v u : Value} {e n c : Nat} {w : World} {R : TypeId} {vs : List Value} (h : isSub v e 0 n c u) (hown : w.ownsRow 0 R e v n vs) : u = v := by
  rcases h with ⟨x0, _, _, _, x3⟩ | ⟨b, n0, cap, x0, _, _, _, x4⟩
  · rw [x3, x0]
  · have : (if cap = 0 then (⟨b, 0, none⟩ : Addr) else ⟨b, 0 * e, none⟩) = ⟨b, 0, none⟩ := by split <;> simp
    rw [this, Nat.sub_zero, Nat.sub_zero] at x4
    rcases hown.2 with ⟨e0, _⟩ | ⟨g, cap', cur, e0, _⟩
    · rw [e0] at x0; cases x0
    · rw [x4, x0]
      rw [x0] at e0
      injection e0 with q1 q2 q3
      rw [q2]

/-- A part that is the whole row. -/
theorem vo_unsub {l : List Oper} (u : Nat) {id e n c R : Nat} {nl : Option Bool} {xs : List PV} (hu : look s.env u = .sub id e 0 n c) (hrow : (s.rows[id]?).bind Row.sl = some (R, e, nl, xs)) (hn : n = xs.length)
    (next : VO P C ops l Q ⟨s.n, (u, .ref id) :: s.env, s.rows⟩) : VO P C ops l Q s := by
  intro a w ⟨m, hs⟩
  subst hn
  obtain ⟨⟨vs, hown⟩, hid, _, _⟩ := hs.sl hrow
  refine next a w ⟨m, { hs with env := fun q => ?_ }⟩
  show RS _ _ _ _ (look ((u, .ref id) :: s.env) q) _
  rw [look_cons]
  split
  · rename_i e0
    subst e0
    have hv := hs.env q
    rw [hu] at hv
    generalize a.tmps.getD q undef = x at hv
    cases hv with
    | sub _ _ _ _ _ _ _ hsb => rw [isSub_whole hsb hown]; exact .ref id hid
  · exact hs.env q

/-- A row is cut shorter. -/
theorem vo_cut {l : List Oper} (u : Nat) {id e n c R : Nat} {nl : Option Bool} {fr : Bool} {xs : List PV} (hu : look s.env u = .sub id e 0 n c) (hrow : s.rows[id]? = some (.own R e nl fr xs)) (hnb : C.nb ≤ id) (hn : n ≤ xs.length)
    (next : VO P C ops l Q ⟨s.n, (u, .ref id) :: killE id s.env, (s.rows.map (Row.kill id)).set id (.own R e nl fr (xs.take n))⟩) : VO P C ops l Q s := by
  intro a w ⟨m, hs⟩
  have hlid : liveAt s.rows id := ⟨_, hrow, rfl⟩
  have hid : id < s.rows.length := (List.getElem?_eq_some_iff.1 hrow).1
  have hsb : isSub (m id).v e 0 n c (a.tmps.getD u undef) := by
    have hv := hs.env u
    rw [hu] at hv
    generalize a.tmps.getD u undef = x at hv
    cases hv with
    | sub _ _ _ _ _ _ _ hsb => exact hsb
  have hR := hs.rows id _ hrow
  have hntake : (xs.take n).length = n := by simp; omega
  have key : ∃ v', v' = a.tmps.getD u undef ∧ (∀ b, blk v' = some b → (m id).S b) ∧ ∀ (G : Bool → Nat → Prop) (m2 : Nat → MV) (N2 : Nat), (∀ fr b, Gd C s.rows m w fr b → G fr b ∧ w.heap[b]? = w.heap[b]?) → RowOK w G m2 N2 (.of v') (.own R e nl fr (xs.take n)) := by
    generalize hmv : m id = mv at *
    cases hR with
    | own v t' e nl fr xs vs hown h1 h2 hw hr =>
      have hvl : vs.length = xs.length * e := hown.1
      have hne : n * e ≤ xs.length * e := Nat.mul_le_mul_right e hn
      have hcells : ∀ (G : Bool → Nat → Prop), (∀ fr b, Gd C s.rows m w fr b → G fr b ∧ w.heap[b]? = w.heap[b]?) → ∀ (k : Nat) (y : PV) (jj : Nat) (cc : PV), (xs.take n)[k]? = some y → y.cells[jj]? = some cc → ∃ u, (vs.take (n * e))[k * e + jj]? = some u ∧ RP w (G fr) cc u := by
        intro G hG k y jj cc hy hc
        rw [List.getElem?_take] at hy
        split at hy
        · rename_i hk
          obtain ⟨u, hu, hp⟩ := hr k y jj cc hy hc
          have hjj : jj < e := by rw [← (hw k y hy).1]; exact (List.getElem?_eq_some_iff.1 hc).1
          have hlt : k * e + jj < n * e := by
            have := Nat.mul_le_mul_right e (show k + 1 ≤ n by omega)
            rw [Nat.add_mul] at this
            omega
          exact ⟨u, by rw [List.getElem?_take, if_pos hlt]; exact hu, hp.mono (hG fr)⟩
        · cases hy
      have hfit : ∀ (k : Nat) (y : PV), (xs.take n)[k]? = some y → y.fits e := fun k y hy => by
        rw [List.getElem?_take] at hy
        split at hy
        · exact hw k y hy
        · cases hy
      rcases hsb with ⟨x0, _, x1, _, x3⟩ | ⟨b, n0, cap, x0, _, x1, x2, x4⟩
      · have x0 : v = .slice none 0 0 := x0
        refine ⟨.slice none 0 0, x3.symm, fun b hb => by simp [blk] at hb, fun G m2 N2 hG => ?_⟩
        subst x1
        exact .own _ _ _ nl fr _ (vs.take (0 * e)) ⟨by simp, .inl ⟨rfl, by simp⟩⟩ (fun _ => rfl) (fun h => by have := h2 h; exact (this x0).elim) hfit (hcells G hG)
      · have x0 : v = .slice (some ⟨b, 0, none⟩) n0 cap := x0
        rcases hown.2 with ⟨e0, _⟩ | ⟨g, cap', cur, e0, q0, hheap, hle, hmx, hcs, htk⟩
        · rw [e0] at x0; cases x0
        · have hbg := x0.symm.trans e0
          injection hbg with q1 q2 q3
          injection q1 with q1
          injection q1 with q1
          subst q1; subst q2; subst q3
          have hA : (if cap = 0 then (⟨b, 0, none⟩ : Addr) else ⟨b, 0 * e, none⟩) = ⟨b, 0, none⟩ := by split <;> simp
          rw [hA, Nat.sub_zero, Nat.sub_zero] at x4
          refine ⟨.slice (some ⟨b, 0, none⟩) n cap, x4.symm, fun b9 hb => by show blk v = some b9; rw [e0]; exact hb, fun G m2 N2 hG => ?_⟩
          refine .own _ _ _ nl fr _ (vs.take (n * e)) ⟨by rw [List.length_take, hvl, hntake]; omega, .inr ⟨b, cap, cur, by rw [hntake], q0, hheap, by rw [hntake]; omega, hmx, hcs, ?_⟩⟩ (fun h => by have := h1 h; rw [e0] at this; cases this) (fun _ h => by cases h) hfit (hcells G hG)
          rw [hntake, ← htk, List.take_take]
          congr 1
          omega
  obtain ⟨v', hv', hb, hok⟩ := key
  have hmove := hs.moveRow (id := id) hlid hnb (w' := w) (bo := none) (fun b h => by cases h) (grown_refl w) (.own R e nl fr (xs.take n)) (.of v') rfl (fun b hb9 => .inl (hb b hb9)) (fun hG => hok _ _ _ hG)
  refine next a w ⟨_, { hmove with env := fun q => ?_ }⟩
  show RS _ _ _ _ (look ((u, .ref id) :: killE id s.env) q) _
  rw [look_cons]
  split
  · rename_i e0
    subst e0
    have := RS.ref (w := w) (G := Gd C ((s.rows.map (Row.kill id)).set id (.own R e nl fr (xs.take n))) (updM m id (.of v')) w) (m := updM m id (.of v')) (N := ((s.rows.map (Row.kill id)).set id (Row.own R e nl fr (xs.take n))).length) id (by simpa using hid)
    rw [updM_same] at this
    rw [← hv']
    exact this
  · exact hmove.env q

end
end Go.Vl


/- Loops in which some slots and some rows turn; states made plain. -/
namespace Go.Vl
set_option linter.unusedVariables false
set_option linter.unusedSimpArgs false
open Go.RowKit

def setAll : List Row → List Nat → List Row → List Row
  | rows, [], _ => rows
  | rows, _ :: _, [] => rows
  | rows, i :: is, r :: rs => setAll (rows.set i r) is rs

def pickR (rows : List Row) (ch : List Nat) : List Row := ch.map fun i => (rows[i]?).getD .dead

section
variable {P : Program} {C : Ctx} {Q : Go.Exit → St → Prop} {s : St}

def againE (N : Nat) (Lf Lv ch : List Nat) (k : Nat) (F : List SV) (R : List Row) (I : Nat → List SV → List Row → Prop) (n : Nat) (s' : St) : Prop :=
  again N (Lf ++ Lv) k (fun m us rows => us.take Lf.length = F ∧ ∃ rs, rs.length = ch.length ∧ rows = setAll R ch rs ∧ I m (us.drop Lf.length) rs) n s'

/-- A loop whose slots Lf stay as they are, and all rows but those of ch. -/
theorem vc_loopE {c : Code} (Lf Lv ch : List Nat) (F : List SV) (R : List Row) (I : Nat → List SV → List Row → Prop) (n0 : Nat) (hF : (Lf.map fun t => look s.env t) = F) (hR : s.rows = R) (hnb : C.nb ≤ R.length)
    (hb0 : F.all (SV.bdd R.length) = true ∧ (Lv.map fun t => look s.env t).all (SV.bdd R.length) = true ∧ R.all (Row.bdd R.length) = true) (hself : setAll R ch (pickR R ch) = R)
    (h0 : I n0 (Lv.map fun t => look s.env t) (pickR R ch))
    (hround : ∀ n vs rs, vs.length = Lv.length → rs.length = ch.length → I n vs rs → VC P C c (thn (againE s.n Lf Lv ch R.length F R I n) Q) ⟨s.n, Lf.zip F ++ Lv.zip vs, setAll R ch rs⟩) :
    VC P C (.loop c) Q s := by
  subst hR
  subst hF
  have hl : (Lf.map fun t => look s.env t).length = Lf.length := by simp
  refine vc_loop (Lf ++ Lv) (fun m us rows => us.take Lf.length = (Lf.map fun t => look s.env t) ∧ ∃ rs, rs.length = ch.length ∧ rows = setAll s.rows ch rs ∧ I m (us.drop Lf.length) rs) n0 hnb ⟨?_, hb0.2.2⟩ ⟨?_, pickR s.rows ch, by simp [pickR], hself.symm, ?_⟩ ?_
  · rw [List.map_append, List.all_append, hb0.1, hb0.2.1]; rfl
  · rw [List.map_append]; simp
  · rw [List.map_append, show Lf.length = (Lf.map fun t => look s.env t).length from hl.symm, List.drop_left]; exact h0
  · rintro n vs rows hv - ⟨h1, rs, hrs, rfl, h2⟩
    have hv' : vs.length = Lf.length + Lv.length := by simpa using hv
    have := hround n (vs.drop Lf.length) rs (by simp; omega) hrs h2
    have e : (Lf ++ Lv).zip vs = Lf.zip (Lf.map fun t => look s.env t) ++ Lv.zip (vs.drop Lf.length) := by
      rw [← h1]
      conv => lhs; rw [← List.take_append_drop Lf.length vs]
      exact List.zip_append (by simp; omega)
    rw [e]
    exact this

theorem againE_mk {N : Nat} {Lf Lv ch : List Nat} {k : Nat} {F : List SV} {R : List Row} {I : Nat → List SV → List Row → Prop} {n : Nat} {s' : St} (h0 : Nat.beq s'.n N = true) (h1 : Nat.ble k s'.rows.length = true)
    (h2 : ((Lf ++ Lv).map fun t => look s'.env t).all (SV.bdd k) = true) (h3 : (s'.rows.take k).all (Row.bdd k) = true)
    (hF : (Lf.map fun t => look s'.env t) = F) (hR : s'.rows.take k = setAll R ch (pickR s'.rows ch))
    (h : ∃ n', n' < n ∧ I n' (Lv.map fun t => look s'.env t) (pickR s'.rows ch)) : againE N Lf Lv ch k F R I n s' := by
  refine ⟨⟨Nat.eq_of_beq_eq_true h0, Nat.le_of_ble_eq_true h1, h2, h3⟩, ?_⟩
  obtain ⟨n', hn, hI⟩ := h
  refine ⟨n', hn, ?_, pickR s'.rows ch, by simp [pickR], hR, ?_⟩
  · rw [List.map_append, ← hF]; simp
  · rw [List.map_append, show Lf.length = (Lf.map fun t => look s'.env t).length by simp, List.drop_left]; exact hI
end

section
variable {late : List Nat} {P : Program} {C : Ctx} {Q : Go.Exit → St → Prop} {K : St → Prop} {s s' : St} {ops : Array Oper} {n : Nat} {listed : Array Bool}
theorem vo_stM {l : List Oper} (next : VO P C ops l Q s') (h : s = s' := by (try simp only [St.put, exposeE, killE, SV.expose, SV.kill, Row.expose, Row.kill, rowsAfter_nil, rowsAfter_one, packS, SV.shift, placeOf, enumE, List.zip_cons_cons, List.zip_nil_right, List.map_cons, List.map_nil, List.set_cons_zero, List.set_cons_succ, List.length_cons, List.length_nil, List.cons_append, List.nil_append, List.drop_succ_cons, List.drop_zero, List.drop_nil, List.take_succ_cons, List.take_zero, List.take_nil, List.getElem?_cons_zero, List.getElem?_cons_succ, List.getElem?_nil, Option.getD_some, Option.getD_none, Option.map_some, Option.map_none, Nat.reduceAdd, Nat.reduceSub, Nat.reduceEqDiff, Nat.zero_add, Bool.true_or, PV.scal, Bool.or_false, Bool.or_true, Bool.false_or, Bool.and_true, Bool.and_false, Bool.true_and, reduceIte, reduceCtorEq, SV.kill1, SV.expose1, deadAll, refsOf, List.foldl_cons, List.foldl_nil, takeSV, takeRows, takeP, takePV, setAll, resG, look_cons, Nat.succ.injEq, Nat.add_eq, Nat.mul_one, Nat.mul_zero, Nat.zero_mul, Nat.add_zero, List.map_map, PV.cells, Nat.reduceMul, List.append_nil, Option.some.injEq, Int.toNat_natCast]); exact eq_refl _) : VO P C ops l Q s := vo_st h next
theorem vc_stM {code : Code} (next : VC P C code Q s') (h : s = s' := by (try simp only [St.put, exposeE, killE, SV.expose, SV.kill, Row.expose, Row.kill, rowsAfter_nil, rowsAfter_one, packS, SV.shift, placeOf, enumE, List.zip_cons_cons, List.zip_nil_right, List.map_cons, List.map_nil, List.set_cons_zero, List.set_cons_succ, List.length_cons, List.length_nil, List.cons_append, List.nil_append, List.drop_succ_cons, List.drop_zero, List.drop_nil, List.take_succ_cons, List.take_zero, List.take_nil, List.getElem?_cons_zero, List.getElem?_cons_succ, List.getElem?_nil, Option.getD_some, Option.getD_none, Option.map_some, Option.map_none, Nat.reduceAdd, Nat.reduceSub, Nat.reduceEqDiff, Nat.zero_add, Bool.true_or, PV.scal, Bool.or_false, Bool.or_true, Bool.false_or, Bool.and_true, Bool.and_false, Bool.true_and, reduceIte, reduceCtorEq, SV.kill1, SV.expose1, deadAll, refsOf, List.foldl_cons, List.foldl_nil, takeSV, takeRows, takeP, takePV, setAll, resG, look_cons, Nat.succ.injEq, Nat.add_eq, Nat.mul_one, Nat.mul_zero, Nat.zero_mul, Nat.add_zero, List.map_map, PV.cells, Nat.reduceMul, List.append_nil, Option.some.injEq, Int.toNat_natCast]); exact eq_refl _) : VC P C code Q s := vc_st h next
theorem vd_stM (next : VD P C ops n listed K s') (h : s = s' := by (try simp only [St.put, exposeE, killE, SV.expose, SV.kill, Row.expose, Row.kill, rowsAfter_nil, rowsAfter_one, packS, SV.shift, placeOf, enumE, List.zip_cons_cons, List.zip_nil_right, List.map_cons, List.map_nil, List.set_cons_zero, List.set_cons_succ, List.length_cons, List.length_nil, List.cons_append, List.nil_append, List.drop_succ_cons, List.drop_zero, List.drop_nil, List.take_succ_cons, List.take_zero, List.take_nil, List.getElem?_cons_zero, List.getElem?_cons_succ, List.getElem?_nil, Option.getD_some, Option.getD_none, Option.map_some, Option.map_none, Nat.reduceAdd, Nat.reduceSub, Nat.reduceEqDiff, Nat.zero_add, Bool.true_or, PV.scal, Bool.or_false, Bool.or_true, Bool.false_or, Bool.and_true, Bool.and_false, Bool.true_and, reduceIte, reduceCtorEq, SV.kill1, SV.expose1, deadAll, refsOf, List.foldl_cons, List.foldl_nil, takeSV, takeRows, takeP, takePV, setAll, resG, look_cons, Nat.succ.injEq, Nat.add_eq, Nat.mul_one, Nat.mul_zero, Nat.zero_mul, Nat.add_zero, List.map_map, PV.cells, Nat.reduceMul, List.append_nil, Option.some.injEq, Int.toNat_natCast]); exact eq_refl _) : VD P C ops n listed K s := vd_st h next
end
end Go.Vl


/- The way into a function, and what it hands back: values, structs, and rows of its own. -/
namespace Go.Vl
set_option linter.unusedVariables false
set_option linter.unusedSimpArgs false
open Go.RowKit

def retQ (C : Ctx) (rs : List (Nat × Option (Nat × Nat))) (R : List SV → List Row → Prop) (e : Go.Exit) (s : St) : Prop :=
  (e = .normal ∨ e = .ret) ∧ rs.all (resGOK s) = true ∧ ∃ res rows', res.length = rs.length ∧ Hands C (List.range rs.length) res rows' ⟨rs.length, enumE 0 (rs.map (resG s)), s.rows⟩ ∧ R res rows'

section
variable {P : Program}

theorem sat_entry_G {f : FuncId} {fn : Func} {c : Code} {args : List SV} {rows : List Row} {R : List SV → List Row → Prop} {rs : List (Nat × Option (Nat × Nat))} (hf : P.funcs[f]? = some fn) (hb : fn.body = some c)
    (hr : fn.results = (rs.map resVar).toArray) (hl : rs.length ≤ 5) (hn : args.length ≤ fn.ntmps) (hT : ∀ r ∈ rs, resT P r)
    (h : ∀ C : Ctx, C.nb = rows.length → VC P C c (retQ C rs R) ⟨fn.ntmps, enumE 0 args, rows⟩) : SatAt P f args rows R := by
  intro C m vals hnb hA hv hs
  refine calls_of_wp hf hb ?_
  have hs2 : SimM C ⟨fn.ntmps, enumE 0 args, rows⟩ m { tmps := vals ++ Array.replicate (fn.ntmps - vals.size) undef, defers := [] } C.w0 := by
    refine { hs with size := ?_, env := fun t => ?_, defs := rfl }
    · simp; omega
    · have := hs.env t
      show RS _ _ _ _ (look (enumE 0 args) t) _
      change RS _ _ _ _ (look (enumE 0 args) t) _ at this
      by_cases ht : t < vals.size
      · have e : (vals ++ Array.replicate (fn.ntmps - vals.size) undef).getD t undef = vals.getD t undef := by
          simp [Array.getD, ht]
          intro hh; omega
        rw [e]
        exact this
      · have e : look (enumE 0 args) t = .any := by
          rw [look_enumE]
          simp
          rw [List.getElem?_eq_none (by omega)]
          rfl
        rw [e]
        exact .any _
  refine wp_mono (h C hnb _ _ ⟨m, hs2⟩) ?_
  rintro e a w' ⟨s', ⟨m', hs'⟩, he, hok, res, rows', hlen, hh, hR⟩
  obtain ⟨us, hrun, hul, hus⟩ := run_resGA (P := P) hs' hr hl hT hok
  have hs3 : SimM C ⟨rs.length, enumE 0 (rs.map (resG s')), s'.rows⟩ m' ⟨us, []⟩ w' := { hs' with
    defs := rfl
    size := hul
    env := fun t => by
      show RS _ _ _ _ (look (enumE 0 (rs.map (resG s'))) t) _
      rw [look_enumE]
      simp only [Nat.zero_le, if_true, Nat.sub_zero]
      rcases Nat.lt_or_ge t rs.length with ht | ht
      · simp only [List.getElem?_map, List.getElem?_eq_getElem ht, Option.map_some, Option.getD_some]
        exact hus t _ (List.getElem?_eq_getElem ht)
      · simp only [List.getElem?_map, List.getElem?_eq_none ht, Option.map_none, Option.getD_none]
        exact .any _ }
  obtain ⟨m2, hm2⟩ := hh m' _ w' hs3
  have hts : ((List.range rs.length).map fun t => us.getD t undef).toArray = us := by
    apply Array.ext_getElem?
    intro i
    simp only [List.getElem?_toArray, List.getElem?_map]
    rcases Nat.lt_or_ge i rs.length with hi | hi
    · rw [List.getElem?_range hi, Array.getElem?_eq_getElem (by omega)]
      simp [Array.getD, show i < us.size by omega]
    · rw [List.getElem?_eq_none (by simpa using hi), Array.getElem?_eq_none (by omega)]
      rfl
  have key : ∃ v, (results fn a.tmps).run P w' = .ok v w' ∧ (∃ (us : Array Value) (res : List SV) (rows' : List Row) (m' : Nat → MV), Ending.returned v = .returned (pack us) ∧ us.size = res.length ∧
      SimM C ⟨us.size, enumE 0 res, rows'⟩ m' ⟨us, []⟩ w' ∧ R res rows') := by
    refine ⟨_, hrun, us, res, rows', m2, rfl, by rw [hul, hlen], ?_, hR⟩
    change SimM C ⟨_, _, _⟩ m2 ⟨((List.range rs.length).map fun t => us.getD t undef).toArray, []⟩ w' at hm2
    rw [hts] at hm2
    rw [hul]
    simpa using hm2
  obtain ⟨v, hv1, hv2⟩ := key
  rcases he with rfl | rfl
  · exact ⟨hs'.defs, v, hv1, hv2⟩
  · exact ⟨hs'.defs, v, hv1, hv2⟩

theorem retQ_sel {C : Ctx} {rs : List (Nat × Option (Nat × Nat))} {R : List SV → List Row → Prop} {s : St} {e : Go.Exit} {k : Nat} (sel : List Nat) {srows : List Row} (he : e = .normal ∨ e = .ret) (hnb : C.nb = k) (hok : rs.all (resGOK s) = true) (hkl : Nat.ble k s.rows.length = true)
    (h3 : sel.map (placeOf sel) = (List.range sel.length).map some) (hsr : sel.map (fun id => s.rows[id]?) = srows.map some) (hge : sel.all (fun id => Nat.ble k id) = true) (hb1 : (s.rows.take k).all (Row.bdd k) = true) (hb2 : srows.all (Row.bdd 0) = true)
    (hR : R ((List.range rs.length).map fun t => renS k sel (look (enumE 0 (rs.map (resG s))) t)) (s.rows.take k ++ srows)) : retQ C rs R e s :=
  ⟨he, hok, _, _, by simp, hands_sel (s := ⟨rs.length, enumE 0 (rs.map (resG s)), s.rows⟩) (ts := List.range rs.length) sel hnb hkl h3 hsr hge hb1 hb2, hR⟩
end
end Go.Vl


/- A field of an element of a row is written. -/
namespace Go.Vl
set_option linter.unusedVariables false
set_option linter.unusedSimpArgs false
open Go.RowKit
section
variable {P : Program} {C : Ctx} {Q : Go.Exit → St → Prop} {s : St} {ops : Array Oper} {rest : List Oper} {t : Nat} {ty : TypeId} {pos : String} {af : Array Edge}

theorem vo_store_ownC {x y : Operand} {T id R e i o : Nat} {nl : Option Bool} {fr f : Bool} {xs cs : List PV} {c : PV} {inf : TypeInfo} (hx : getO s.env x = .ptr id e i o) (hrow : s.rows[id]? = some (.own R e nl fr xs))
    (hy : getO s.env y = .pv f c) (hna : c.isAgg = false) (hinf : P.info? T = some inf) (hsz : inf.size = 1) (hget : xs[i]? = some (.agg cs)) (ho : Nat.blt o e = true)
    (next : VO P C ops rest Q ⟨s.n, s.env, s.rows.set id (.own R e nl (fr && (f || c.scal)) (xs.set i (.agg (cs.set o c))))⟩) :
    VO P C ops (⟨none, .store T x y, ty, pos, af, none⟩ :: rest) Q s := by
  refine vo_unit (s1 := { s with rows := s.rows.set id (.own R e nl (fr && (f || c.scal)) (xs.set i (.agg (cs.set o c)))) }) (fun m a w hs => ?_) next
  obtain ⟨b, hv, hb, hid⟩ := hs.ptr hx
  have ho := blt_lt ho
  have hvy := hs.get y
  rw [hy] at hvy
  have hvy := hvy.pv_inv
  have hone := hvy.oneCell hna
  have hlive : liveAt s.rows id := ⟨_, hrow, rfl⟩
  have hi : i < xs.length := (List.getElem?_eq_some_iff.1 hget).1
  have hR := hs.rows id _ hrow
  generalize hmv : m id = v at *
  cases hR with
  | own v t' e nl fr xs vs hown h1 h2 hw hr =>
    have hvl : vs.length = xs.length * e := hown.1
    have hf := hw i _ hget
    have hcl : cs.length = e := hf.1
    rcases hown.2 with ⟨rfl, hn0⟩ | ⟨g, cap, cur, rfl, _, hh, hle, hmx, hcs, htk⟩
    · omega
    · simp only [MV.of, blk, Option.some.injEq] at hb
      have hgb : b = g := hb.symm
      subst hgb
      have hlt : i * e + o < xs.length * e := by
        have := Nat.mul_le_mul_right e (show i + 1 ≤ xs.length by omega)
        rw [Nat.add_mul] at this
        omega
      have hle2 : xs.length * e ≤ cap * e := Nat.mul_le_mul_right e hle
      have hcur : i * e + o < cur.size := by omega
      have hcell : w.cell? ⟨b, i * e + o, none⟩ = some cur[i * e + o] := by
        rw [cell_of_row w b _ cur R (0, 0) hh]; exact Array.getElem?_eq_getElem hcur
      have hfz : w.frozen? ⟨b, i * e + o, none⟩ = false := by simp [World.frozen?, hh]
      have hcells : (a.eval y).cells.toList = [a.eval y] := oneCell_cells hone
      have hcs1 : (a.eval y).cells.size = 1 := by
        have := congrArg List.length hcells
        simpa using this
      let w' := w.setCell ⟨b, i * e + o, none⟩ (a.eval y)
      have hst : (store (⟨b, i * e + o, none⟩ : Addr) (a.eval y)).run P w = .ok () w' := by
        rw [run_store P w _ _ _ hone, hcell]
        simp [hfz, w']
      have hheap' : w'.heap[b]? = some (.cells (cur.setIfInBounds (i * e + o) (a.eval y)) R (0, 0)) := heap_setCell_same w b (i * e + o) cur R _ hh
      have hg : w.grownBy w' (some b) := ⟨rfl, rfl, rfl, by simp [w', World.setCell], fun k _ hk => heap_setCell_other w ⟨b, i * e + o, none⟩ k _ (fun e => hk (by rw [e]))⟩
      refine ⟨w', m, ?_, ?_⟩
      · have hadd : (⟨b, i * e + o, none⟩ : Addr).add 0 = ⟨b, i * e + o, none⟩ := rfl
        simp [execOp, Instr.storeAt, hv, Instr.sureAddr, storeVar, sizeOf, typeInfo, hinf, hsz, hcs1, hcells, storeCells, hadd, hst]
      · refine hs.storeRow hlive (fun b' e => by cases e; rw [hmv]; rfl) hg _ (fun hG => ?_)
        rw [hmv]
        have hcomb : ∀ b, Gd C s.rows m w fr b → Gd C s.rows m w (fr && (f || c.scal)) b := by
          intro b hb
          cases hf1 : fr && (f || c.scal) with
          | false => exact hb.weak
          | true => simp only [Bool.and_eq_true] at hf1; rw [hf1.1] at hb; exact hb
        refine .own _ R e nl _ (xs.set i (.agg (cs.set o c))) (vs.set (i * e + o) (a.eval y)) ⟨by simp [hvl], .inr ⟨b, cap, _, by rw [List.length_set], Nat.zero_le _, hheap', by rw [List.length_set]; exact hle, hmx, by simp [hcs], ?_⟩⟩
          (fun h => by have := h1 h; simp at this) (fun _ h => by cases h) (fun k x hx => ?_) (fun k x j c' hx hc => ?_)
        · rw [List.length_set, Array.toList_setIfInBounds, List.take_set, htk]
        · rw [List.getElem?_set] at hx
          split at hx
          · cases hx
            refine ⟨by show (cs.set o c).length = e; simp [hcl], fun j c' hc' => ?_⟩
            change (cs.set o c)[j]? = some c' at hc'
            rw [List.getElem?_set] at hc'
            split at hc'
            · split at hc'
              · cases hc'; exact hna
              · cases hc'
            · exact hf.2 j c' hc'
          · exact hw k x hx
        · rw [List.getElem?_set] at hx
          split at hx
          · rename_i e1
            subst e1
            cases hx
            change (cs.set o c)[j]? = some c' at hc
            rw [List.getElem?_set] at hc
            split at hc
            · rename_i e2
              subst e2
              have hc : c = c' := by
                split at hc
                · cases hc; rfl
                · cases hc
              subst hc
              refine ⟨a.eval y, by rw [List.getElem?_set_self (by omega)], ?_⟩
              by_cases hsc : c.scal = true
              · exact hvy.scal_any hsc
              · refine hvy.mono fun b' hb' => hG _ _ ?_
                have hsc : c.scal = false := by simpa using hsc
                rw [hsc, Bool.or_false]
                cases fr with
                | false => exact hb'.weak
                | true => exact hb'
            · rename_i e2
              obtain ⟨u, hu, hp⟩ := hr i _ j c' hget hc
              have hjl : j < e := by rw [← hcl]; exact (List.getElem?_eq_some_iff.1 hc).1
              exact ⟨u, by rw [List.getElem?_set_ne (by omega)]; exact hu, hp.mono fun b' hb' => hG _ _ (hcomb _ hb')⟩
          · rename_i e1
            obtain ⟨u, hu, hp⟩ := hr k x j c' hx hc
            have hjl : j < e := by rw [← (hw k x hx).1]; exact (List.getElem?_eq_some_iff.1 hc).1
            have hne : i * e + o ≠ k * e + j := by
              intro h9
              have e2 : (i * e + o) / e = (k * e + j) / e := by rw [h9]
              rw [Nat.mul_comm i e, Nat.mul_comm k e, Nat.mul_add_div (by omega), Nat.mul_add_div (by omega), Nat.div_eq_of_lt hjl, Nat.div_eq_of_lt ho] at e2
              omega
            exact ⟨u, by rw [List.getElem?_set_ne hne]; exact hu, hp.mono fun b' hb' => hG _ _ (hcomb _ hb')⟩
end
end Go.Vl


/- The facts on the types of this translation that the rules ask for. -/
namespace Go.Vl
set_option linter.unusedVariables false
set_option linter.unusedSimpArgs false
open Go.Proofs
noncomputable def ti3 : TypeInfo := (Try.prog.info? 3).getD default
theorem inf3 : Try.prog.info? 3 = some ti3 := by kernel_rfl
theorem sz3 : ti3.size = 1 := by kernel_rfl
theorem by3 : ti3.bytes = 8 := by kernel_rfl
noncomputable def ti4 : TypeInfo := (Try.prog.info? 4).getD default
theorem inf4 : Try.prog.info? 4 = some ti4 := by kernel_rfl
theorem sz4 : ti4.size = 1 := by kernel_rfl
noncomputable def ti5 : TypeInfo := (Try.prog.info? 5).getD default
theorem inf5 : Try.prog.info? 5 = some ti5 := by kernel_rfl
theorem sz5 : ti5.size = 1 := by kernel_rfl
theorem by5 : ti5.bytes = 1 := by kernel_rfl
noncomputable def ti22 : TypeInfo := (Try.prog.info? 22).getD default
theorem inf22 : Try.prog.info? 22 = some ti22 := by kernel_rfl
theorem sz22 : ti22.size = 1 := by kernel_rfl
noncomputable def ti32 : TypeInfo := (Try.prog.info? 32).getD default
noncomputable def ti37 : TypeInfo := (Try.prog.info? 37).getD default
theorem inf37 : Try.prog.info? 37 = some ti37 := by kernel_rfl
theorem sz37 : ti37.size = 2 := by kernel_rfl
theorem by37 : ti37.bytes = 16 := by kernel_rfl
noncomputable def ti38 : TypeInfo := (Try.prog.info? 38).getD default
noncomputable def ti46 : TypeInfo := (Try.prog.info? 46).getD default
theorem inf46 : Try.prog.info? 46 = some ti46 := by kernel_rfl
theorem sz46 : ti46.size = 4 := by kernel_rfl
theorem by46 : ti46.bytes = 32 := by kernel_rfl
noncomputable def ti50 : TypeInfo := (Try.prog.info? 50).getD default
noncomputable def ti51 : TypeInfo := (Try.prog.info? 51).getD default
noncomputable def ti53 : TypeInfo := (Try.prog.info? 53).getD default
noncomputable def ti56 : TypeInfo := (Try.prog.info? 56).getD default
noncomputable def ti58 : TypeInfo := (Try.prog.info? 58).getD default
noncomputable def ti70 : TypeInfo := (Try.prog.info? 70).getD default
noncomputable def ti72 : TypeInfo := (Try.prog.info? 72).getD default
noncomputable def ti86 : TypeInfo := (Try.prog.info? 86).getD default
noncomputable def ti93 : TypeInfo := (Try.prog.info? 93).getD default
noncomputable def ti95 : TypeInfo := (Try.prog.info? 95).getD default
noncomputable def ti113 : TypeInfo := (Try.prog.info? 113).getD default
noncomputable def ti122 : TypeInfo := (Try.prog.info? 122).getD default
theorem E22 : ElInfo Try.prog 22 5 1 1 (.int .u8 0) :=
  ⟨Try.underlying22, ⟨ti5, (.int .u8 0), inf5, sz5, by5, by kernel_rfl, by kernel_rfl, fun _ _ => .int _ _⟩, fits_of rfl, by decide⟩
theorem E50 : ElInfo Try.prog 50 3 1 8 (.int .i64 0) :=
  ⟨Try.underlying50, ⟨ti3, (.int .i64 0), inf3, sz3, by3, by kernel_rfl, by kernel_rfl, fun _ _ => .int _ _⟩, fits_of rfl, by decide⟩
theorem Z37 : StZ Try.prog 37 [(.int .i64 0), (.int .i64 0)] := by
  refine ⟨⟨_, Try.underlying37⟩, ti37, #[(.int .i64 0), (.int .i64 0)], inf37, sz37, by kernel_rfl, fun w G => .agg _ _ rfl ?_ ?_⟩
  · intro j c h
    match j, h with
    | 0, h => cases h; rfl
    | 1, h => cases h; rfl
  · intro j c u h hu
    match j, h, hu with
    | 0, h, hu => cases h; cases hu; exact .int _ _
    | 1, h, hu => cases h; cases hu; exact .int _ _
theorem E32 : ElInfo Try.prog 32 37 2 16 (.agg [(.int .i64 0), (.int .i64 0)]) := .of_struct Try.underlying32 Z37 (fun i h => by rw [inf37] at h; rw [← Option.some.inj h]; exact by37) (List.cons_ne_nil _ _)
theorem S37 : StInfo Try.prog 37 [(0, 1), (1, 1)] [(.int .i64 0), (.int .i64 0)] := by
  refine ⟨⟨_, Try.underlying37⟩, #[(.int .i64 0), (.int .i64 0)], fun l => by kernel_rfl, fun w G => .agg _ _ rfl ?_ ?_⟩
  · intro j c h
    match j, h with
    | 0, h => cases h; rfl
    | 1, h => cases h; rfl
  · intro j c u h hu
    match j, h, hu with
    | 0, h, hu => cases h; cases hu; exact .int _ _
    | 1, h, hu => cases h; cases hu; exact .int _ _
theorem Z46 : StZ Try.prog 46 [(.int .i64 0), (.int .i64 0), (.int .i64 0), (.bool false)] := by
  refine ⟨⟨_, Try.underlying46⟩, ti46, #[(.int .i64 0), (.int .i64 0), (.int .i64 0), (.bool false)], inf46, sz46, by kernel_rfl, fun w G => .agg _ _ rfl ?_ ?_⟩
  · intro j c h
    match j, h with
    | 0, h => cases h; rfl
    | 1, h => cases h; rfl
    | 2, h => cases h; rfl
    | 3, h => cases h; rfl
  · intro j c u h hu
    match j, h, hu with
    | 0, h, hu => cases h; cases hu; exact .int _ _
    | 1, h, hu => cases h; cases hu; exact .int _ _
    | 2, h, hu => cases h; cases hu; exact .int _ _
    | 3, h, hu => cases h; cases hu; exact .bool _
theorem E23 : ElInfo Try.prog 23 46 4 32 (.agg [(.int .i64 0), (.int .i64 0), (.int .i64 0), (.bool false)]) := .of_struct Try.underlying23 Z46 (fun i h => by rw [inf46] at h; rw [← Option.some.inj h]; exact by46) (List.cons_ne_nil _ _)
theorem S46 : StInfo Try.prog 46 [(0, 1), (1, 1), (2, 1), (3, 1)] [(.int .i64 0), (.int .i64 0), (.int .i64 0), (.bool false)] := by
  refine ⟨⟨_, Try.underlying46⟩, #[(.int .i64 0), (.int .i64 0), (.int .i64 0), (.bool false)], fun l => by kernel_rfl, fun w G => .agg _ _ rfl ?_ ?_⟩
  · intro j c h
    match j, h with
    | 0, h => cases h; rfl
    | 1, h => cases h; rfl
    | 2, h => cases h; rfl
    | 3, h => cases h; rfl
  · intro j c u h hu
    match j, h, hu with
    | 0, h, hu => cases h; cases hu; exact .int _ _
    | 1, h, hu => cases h; cases hu; exact .int _ _
    | 2, h, hu => cases h; cases hu; exact .int _ _
    | 3, h, hu => cases h; cases hu; exact .bool _
theorem S113 : StInfo Try.prog 113 [(0, 1), (1, 1)] [(.sl none 1 []), (.int .i64 0)] := by
  refine ⟨⟨_, Try.underlying113⟩, #[(.slice none 0 0), (.int .i64 0)], fun l => by kernel_rfl, fun w G => .agg _ _ rfl ?_ ?_⟩
  · intro j c h
    match j, h with
    | 0, h => cases h; rfl
    | 1, h => cases h; rfl
  · intro j c u h hu
    match j, h, hu with
    | 0, h, hu => cases h; cases hu; exact .nilsl _ _ (by decide)
    | 1, h, hu => cases h; cases hu; exact .int _ _
end Go.Vl


namespace Go.Vl
set_option linter.unusedVariables false
set_option linter.unusedSimpArgs false
open Go.Proofs
def findM (n : Int) : List Int → Int → Int
  | [], _ => -1
  | x :: xs, i => if x = n then i else findM n xs (i+1)

theorem findM_drop (n : Int) (l : List Int) (k : Nat) (h : k < l.length) : findM n (l.drop k) k = if l.getD k 0 = n then (k : Int) else findM n (l.drop (k+1)) (k+1) := by
  rw [List.drop_eq_getElem_cons h]
  simp [findM, List.getD, List.getElem?_eq_getElem h]

theorem findM_mem (n : Int) : ∀ (l : List Int) (k : Int), 0 ≤ k → (0 ≤ findM n l k ↔ n ∈ l)
  | [], k, _ => by simp [findM]
  | x :: xs, k, h => by
    by_cases hx : x = n
    · simp [findM, hx, h]
    · have := findM_mem n xs (k+1) (by omega)
      simp [findM, hx, Ne.symm hx, this]

theorem findM_not (n : Int) (l : List Int) (k : Int) (h : 0 ≤ k) : findM n l k < 0 ↔ n ∉ l := by
  rw [← findM_mem n l k h]; omega

theorem nodup_take_succ {α : Type} {l : List α} {k : Nat} (h : k < l.length) (d : α) : (l.take (k+1)).Nodup ↔ (l.take k).Nodup ∧ l.getD k d ∉ l.take k := by
  rw [List.take_succ_eq_append_getElem h, List.nodup_append]
  simp [List.getD, List.getElem?_eq_getElem h]
  intro _
  exact ⟨fun h1 h2 => h1 _ h2 rfl, fun h1 a ha e => h1 (e ▸ ha)⟩

theorem nodup_take {α : Type} {l : List α} (k : Nat) (h : l.Nodup) : (l.take k).Nodup := (List.take_sublist k l).nodup h

theorem all_take_succ {α : Type} {p : α → Prop} {l : List α} {k : Nat} (h : k < l.length) (d : α) : (∀ x ∈ l.take (k+1), p x) ↔ (∀ x ∈ l.take k, p x) ∧ p (l.getD k d) := by
  rw [List.take_succ_eq_append_getElem h]
  simp only [List.mem_append, List.mem_singleton, or_imp, forall_and, forall_eq, List.getD, List.getElem?_eq_getElem h, Option.getD_some]

theorem getD_mem {α : Type} {l : List α} {k : Nat} (h : k < l.length) (d : α) : l.getD k d ∈ l := by
  simp [List.getD, List.getElem?_eq_getElem h]

theorem take_all {α : Type} {l : List α} {k : Nat} (h : l.length ≤ k) : l.take k = l := List.take_of_length_le h
theorem bT {P : Prop} [Decidable P] (h : P) : true = decide P := (decide_eq_true h).symm
theorem bF {P : Prop} [Decidable P] (h : ¬ P) : false = decide P := (decide_eq_false h).symm
/-- What can be the bases of a class. -/
def CB (l : List Int) (c : Int) : Prop := l ≠ [] ∧ l.length ≤ 4 ∧ l.Nodup ∧ ∀ x ∈ l, 0 ≤ x ∧ x ≤ c - 1
instance {l : List Int} {c : Int} : Decidable (CB l c) := by unfold CB; infer_instance
/-- Bases that are valid. -/
def VB (b : List (List Int)) : Prop := 1 ≤ b.length ∧ b.length ≤ 12 ∧ b.getD 0 [] = [] ∧ ∀ i, i < b.length → 0 < i → CB (b.getD i []) i
instance {b : List (List Int)} : Decidable (VB b) := by unfold VB; infer_instance
def RB0 (l : List Int) (i : Nat) : Prop := (l.length = 0 ↔ i = 0) ∧ l.length ≤ 4 ∧ l.Nodup ∧ ∀ x ∈ l, 0 ≤ x ∧ x ≤ (i : Int) - 1
/-- Lists that can be merged or kept. -/
def OKL (l : List Int) (m : Int) : Prop := (l.length : Int) ≤ m ∧ l.Nodup
instance {l : List Int} {c : Int} : Decidable (OKL l c) := by unfold OKL; infer_instance
/-- Slots that are valid. -/
def VS (b s : List (List Int)) : Prop := VB b ∧ s.length = b.length ∧ s.getD 0 [] = [] ∧ ∀ l ∈ s, OKL l 4 ∧ ∀ x ∈ l, 0 ≤ x ∧ x ≤ 9
instance {b s : List (List Int)} : Decidable (VS b s) := by unfold VS; infer_instance

theorem inRange_sat {n : Int} {low : Int} {high : Int}   : SatAt Try.prog 69 [i64 n, i64 low, i64 high] [] (fun res rows => res = [bo (decide (low ≤ n ∧ n ≤ high))] ∧ rows = []) := by
  refine sat_entry (ts := [6]) Try.func69 rfl rfl (by decide) (Nat.le_of_ble_eq_true rfl) fun C hC => ?_
  rw [Try.ntmps69]
  replace hC : C.nb = 0 := hC
  refine vc_seq fun K1 hK1 => ?_
  refine vc_region ?_
  refine vo_assign_pv rfl rfl ?_
  refine vo_nil ?_
  refine hK1 _ ?_
  refine vc_seq fun K2 hK2 => ?_
  refine vc_region ?_
  refine vo_move_pv rfl rfl ?_
  refine vo_move_pv rfl rfl ?_
  refine vo_binI rfl rfl rfl rfl trivial ?_
  refine vo_move_pv rfl rfl ?_
  refine vo_split 10 rfl (fun hg1 => ?_) (fun hg1 => ?_)
  · try simp only [decide_eq_true_eq, decide_eq_false_iff_not, beq_iff_eq, bne_iff_ne, beq_eq_false_iff_ne, bne_eq_false_iff_eq, Bool.not_eq_true, Bool.not_eq_false, Bool.not_eq_eq_eq_not, Bool.not_true, Bool.not_false, List.length_map, Int.not_lt, Int.not_le, ne_eq, Decidable.not_not] at hg1
    refine vo_guard_on rfl rfl rfl ?_
    refine vo_move_pv rfl rfl ?_
    refine vo_guard_on rfl rfl rfl ?_
    refine vo_move_pv rfl rfl ?_
    refine vo_guard_on rfl rfl rfl ?_
    refine vo_binI rfl rfl rfl rfl trivial ?_
    refine vo_pick_t rfl rfl ?_
    refine vo_assign_pv rfl rfl ?_
    refine vo_nil ?_
    refine hK2 _ ?_
    refine vc_ret ?_
    change retPv _ _ _ _ _
    refine retPv_mk rfl rfl rfl ⟨?_, rfl⟩
    refine (congrArg (fun b => [bo b]) (?_ : _ = _) : [bo _] = [bo _])
    simp_all <;> omega
  · try simp only [decide_eq_true_eq, decide_eq_false_iff_not, beq_iff_eq, bne_iff_ne, beq_eq_false_iff_ne, bne_eq_false_iff_eq, Bool.not_eq_true, Bool.not_eq_false, Bool.not_eq_eq_eq_not, Bool.not_true, Bool.not_false, List.length_map, Int.not_lt, Int.not_le, ne_eq, Decidable.not_not] at hg1
    refine vo_guard_off rfl rfl rfl rfl rfl ?_
    refine vo_guard_off rfl rfl rfl rfl rfl ?_
    refine vo_guard_off rfl rfl rfl rfl rfl ?_
    refine vo_pick_f rfl rfl ?_
    refine vo_assign_pv rfl rfl ?_
    refine vo_nil ?_
    refine hK2 _ ?_
    refine vc_ret ?_
    change retPv _ _ _ _ _
    refine retPv_mk rfl rfl rfl ⟨?_, rfl⟩
    refine (congrArg (fun b => [bo b]) (?_ : _ = _) : [bo _] = [bo _])
    simp_all <;> omega


theorem Index_sat {nl0 : Option Bool} {s : List Int} {v : Int} (hs : s.length < 1000000000)  : SatAt Try.prog 116 [.pv false (.sl nl0 1 (s.map intP)), i64 v] [] (fun res rows => res = [i64 (findM v s 0)] ∧ rows = []) := by
  refine sat_entry (ts := [4]) Try.func116 rfl rfl (by decide) (Nat.le_of_ble_eq_true rfl) fun C hC => ?_
  rw [Try.ntmps116]
  replace hC : C.nb = 0 := hC
  refine vc_seq fun K1 hK1 => ?_
  refine vc_region ?_
  refine vo_assign_pv rfl rfl ?_
  refine vo_nil ?_
  refine hK1 _ ?_
  refine vc_seq fun K2 hK2 => ?_
  refine vc_seq fun K3 hK3 => ?_
  refine vc_region ?_
  refine vo_move_pv rfl rfl ?_
  refine vo_len_pv rfl rfl Try.underlying50 ?_
  refine vo_move_pv rfl rfl ?_
  refine vo_nil ?_
  refine hK3 _ ?_
  refine vc_block ?_
  refine vc_stN ?_
  refine vc_loopF [0, 1, 7] [8] [.pv false (.sl nl0 1 (s.map intP)), i64 v, i64 (s.map intP).length] _ (fun mz vs => ∃ (k : Nat), mz = s.length - k ∧ (k ≤ s.length) ∧ (findM v s 0 = findM v (s.drop k) k) ∧ vs = [i64 k]) (s.length) rfl rfl (le_len hC rfl) ⟨rfl, rfl, rfl⟩ ⟨0, rfl, Nat.zero_le _, rfl, rfl⟩ ?_
  rintro mz vs - ⟨k, rfl, hk, hf, rfl⟩
  refine vc_stN ?_
  refine vc_seq fun K4 hK4 => ?_
  refine vc_region ?_
  refine vo_binI rfl rfl rfl rfl trivial ?_
  refine vo_nil ?_
  refine hK4 _ ?_
  refine vc_seq fun K5 hK5 => ?_
  refine vc_cond rfl (fun hc1 => ?_) (fun hc1 => ?_)
  · try simp only [decide_eq_true_eq, decide_eq_false_iff_not, beq_iff_eq, bne_iff_ne, beq_eq_false_iff_ne, bne_eq_false_iff_eq, Bool.not_eq_true, Bool.not_eq_false, Bool.not_eq_eq_eq_not, Bool.not_true, Bool.not_false, List.length_map, Int.not_lt, Int.not_le, ne_eq, Decidable.not_not] at hc1
    refine vc_skip ?_
    refine hK5 _ ?_
    refine vc_seq fun K6 hK6 => ?_
    refine vc_block ?_
    refine vc_seq fun K7 hK7 => ?_
    refine vc_region ?_
    refine vo_move_pv rfl rfl ?_
    refine vo_assign_pv rfl rfl ?_
    refine vo_nil ?_
    refine hK7 _ ?_
    refine vc_seq fun K8 hK8 => ?_
    refine vc_region ?_
    refine vo_move_pv rfl rfl ?_
    refine vo_move_pv rfl rfl ?_
    refine vo_move_pv rfl rfl ?_
    refine vo_index_pv (.int .i64 0) rfl rfl rfl E50.und inf3 sz3 sd sd ?_
    simp only [Int.toNat_natCast, Int.toNat_zero, getD_ints, getD_intss, getD_bools, getD_bytes, PV.cells]
    refine vo_load_adr rfl rfl Try.underlying3 rfl ?_
    refine vo_binI rfl rfl rfl rfl trivial ?_
    refine vo_nil ?_
    refine hK8 _ ?_
    refine vc_cond rfl (fun hc2 => ?_) (fun hc2 => ?_)
    · try simp only [decide_eq_true_eq, decide_eq_false_iff_not, beq_iff_eq, bne_iff_ne, beq_eq_false_iff_ne, bne_eq_false_iff_eq, Bool.not_eq_true, Bool.not_eq_false, Bool.not_eq_eq_eq_not, Bool.not_true, Bool.not_false, List.length_map, Int.not_lt, Int.not_le, ne_eq, Decidable.not_not] at hc2
      refine vc_seq fun K9 hK9 => ?_
      refine vc_region ?_
      refine vo_move_pv rfl rfl ?_
      refine vo_assign_pv rfl rfl ?_
      refine vo_nil ?_
      refine hK9 _ ?_
      refine vc_ret ?_
      change retPv _ _ _ _ _
      refine retPv_mk rfl rfl rfl ⟨?_, rfl⟩
      refine (congrArg (fun b => [i64 b]) (?_ : _ = _) : [i64 _] = [i64 _])
      rw [hf, findM_drop _ _ _ (by omega), if_pos (by omega)]
    · try simp only [decide_eq_true_eq, decide_eq_false_iff_not, beq_iff_eq, bne_iff_ne, beq_eq_false_iff_ne, bne_eq_false_iff_eq, Bool.not_eq_true, Bool.not_eq_false, Bool.not_eq_eq_eq_not, Bool.not_true, Bool.not_false, List.length_map, Int.not_lt, Int.not_le, ne_eq, Decidable.not_not] at hc2
      refine vc_skip ?_
      refine hK6 _ ?_
      refine vc_region ?_
      refine vo_binI rfl rfl rfl rfl sd ?_
      refine vo_move_pv rfl rfl ?_
      refine vo_nil ?_
      change againF _ _ _ _ _ _ _ _ _
      refine againF_mk rfl rfl rfl rfl rfl rfl ⟨_, ?_, k + 1, rfl, ?_, ?_, rfl⟩
      · omega
      · omega
      · rw [hf, findM_drop _ _ _ (by omega), if_neg (by omega)]; rfl
  · try simp only [decide_eq_true_eq, decide_eq_false_iff_not, beq_iff_eq, bne_iff_ne, beq_eq_false_iff_ne, bne_eq_false_iff_eq, Bool.not_eq_true, Bool.not_eq_false, Bool.not_eq_eq_eq_not, Bool.not_true, Bool.not_false, List.length_map, Int.not_lt, Int.not_le, ne_eq, Decidable.not_not] at hc1
    refine vc_exit ?_
    refine hK2 _ ?_
    refine vc_seq fun K10 hK10 => ?_
    refine vc_region ?_
    refine vo_assign_pv rfl rfl ?_
    refine vo_nil ?_
    refine hK10 _ ?_
    refine vc_ret ?_
    change retPv _ _ _ _ _
    refine retPv_mk rfl rfl rfl ⟨?_, rfl⟩
    refine (congrArg (fun b => [i64 b]) (?_ : _ = _) : [i64 _] = [i64 _])
    rw [hf, show k = s.length by omega, List.drop_length]; rfl


theorem Contains_sat {nl0 : Option Bool} {s : List Int} {v : Int} (hs : s.length < 1000000000)  : SatAt Try.prog 103 [.pv false (.sl nl0 1 (s.map intP)), i64 v] [] (fun res rows => res = [bo (decide (v ∈ s))] ∧ rows = []) := by
  refine sat_entry (ts := [4]) Try.func103 rfl rfl (by decide) (Nat.le_of_ble_eq_true rfl) fun C hC => ?_
  rw [Try.ntmps103]
  replace hC : C.nb = 0 := hC
  refine vc_seq fun K1 hK1 => ?_
  refine vc_region ?_
  refine vo_assign_pv rfl rfl ?_
  refine vo_nil ?_
  refine hK1 _ ?_
  refine vc_seq fun K2 hK2 => ?_
  refine vc_region ?_
  refine vo_move_pv rfl rfl ?_
  refine vo_move_pv rfl rfl ?_
  refine vo_call0 Try.func116 rfl rfl rfl rfl (Index_sat hs) ?_
  rintro _ _ ⟨rfl, rfl⟩
  refine ⟨rfl, rfl, .inl rfl, ?_⟩
  refine vo_binI rfl rfl rfl rfl trivial ?_
  refine vo_assign_pv rfl rfl ?_
  refine vo_nil ?_
  refine hK2 _ ?_
  refine vc_ret ?_
  change retPv _ _ _ _ _
  refine retPv_mk rfl rfl rfl ⟨?_, rfl⟩
  refine (congrArg (fun b => [bo b]) (?_ : _ = _) : [bo _] = [bo _])
  exact decide_eq_decide.2 (findM_mem _ _ _ (by omega))


theorem isList_sat {nl0 : Option Bool} {list : List Int} {most : Int} (hlist : list.length < 1000000000)  : SatAt Try.prog 76 [.pv false (.sl nl0 1 (list.map intP)), i64 most] [] (fun res rows => res = [bo (decide (OKL list most))] ∧ rows = []) := by
  refine sat_entry (ts := [4]) Try.func76 rfl rfl (by decide) (Nat.le_of_ble_eq_true rfl) fun C hC => ?_
  rw [Try.ntmps76]
  replace hC : C.nb = 0 := hC
  refine vc_seq fun K1 hK1 => ?_
  refine vc_region ?_
  refine vo_assign_pv rfl rfl ?_
  refine vo_nil ?_
  refine hK1 _ ?_
  refine vc_seq fun K2 hK2 => ?_
  refine vc_seq fun K3 hK3 => ?_
  refine vc_region ?_
  refine vo_move_pv rfl rfl ?_
  refine vo_len_pv rfl rfl Try.underlying50 ?_
  refine vo_move_pv rfl rfl ?_
  refine vo_binI rfl rfl rfl rfl trivial ?_
  refine vo_nil ?_
  refine hK3 _ ?_
  refine vc_cond rfl (fun hc1 => ?_) (fun hc1 => ?_)
  · try simp only [decide_eq_true_eq, decide_eq_false_iff_not, beq_iff_eq, bne_iff_ne, beq_eq_false_iff_ne, bne_eq_false_iff_eq, Bool.not_eq_true, Bool.not_eq_false, Bool.not_eq_eq_eq_not, Bool.not_true, Bool.not_false, List.length_map, Int.not_lt, Int.not_le, ne_eq, Decidable.not_not] at hc1
    refine vc_seq fun K4 hK4 => ?_
    refine vc_region ?_
    refine vo_assign_pv rfl rfl ?_
    refine vo_nil ?_
    refine hK4 _ ?_
    refine vc_ret ?_
    change retPv _ _ _ _ _
    refine retPv_mk rfl rfl rfl ⟨?_, rfl⟩
    refine (congrArg (fun b => [bo b]) (?_ : _ = _) : [bo _] = [bo _])
    exact bF fun h => by have := h.1; omega
  · try simp only [decide_eq_true_eq, decide_eq_false_iff_not, beq_iff_eq, bne_iff_ne, beq_eq_false_iff_ne, bne_eq_false_iff_eq, Bool.not_eq_true, Bool.not_eq_false, Bool.not_eq_eq_eq_not, Bool.not_true, Bool.not_false, List.length_map, Int.not_lt, Int.not_le, ne_eq, Decidable.not_not] at hc1
    refine vc_skip ?_
    refine hK2 _ ?_
    refine vc_seq fun K5 hK5 => ?_
    refine vc_seq fun K6 hK6 => ?_
    refine vc_region ?_
    refine vo_move_pv rfl rfl ?_
    refine vo_len_pv rfl rfl Try.underlying50 ?_
    refine vo_move_pv rfl rfl ?_
    refine vo_nil ?_
    refine hK6 _ ?_
    refine vc_block ?_
    refine vc_stN ?_
    refine vc_loopF [0, 11, 12] [13] [.pv false (.sl nl0 1 (list.map intP)), .pv false (.sl nl0 1 (list.map intP)), i64 (list.map intP).length] _ (fun mz vs => ∃ (k : Nat), mz = list.length - k ∧ (k ≤ list.length) ∧ ((list.take k).Nodup) ∧ vs = [i64 k]) (list.length) rfl rfl (le_len hC rfl) ⟨rfl, rfl, rfl⟩ ⟨0, rfl, Nat.zero_le _, List.nodup_nil, rfl⟩ ?_
    rintro mz vs - ⟨k, rfl, hk, hf, rfl⟩
    refine vc_stN ?_
    refine vc_seq fun K7 hK7 => ?_
    refine vc_region ?_
    refine vo_binI rfl rfl rfl rfl trivial ?_
    refine vo_nil ?_
    refine hK7 _ ?_
    refine vc_seq fun K8 hK8 => ?_
    refine vc_cond rfl (fun hc2 => ?_) (fun hc2 => ?_)
    · try simp only [decide_eq_true_eq, decide_eq_false_iff_not, beq_iff_eq, bne_iff_ne, beq_eq_false_iff_ne, bne_eq_false_iff_eq, Bool.not_eq_true, Bool.not_eq_false, Bool.not_eq_eq_eq_not, Bool.not_true, Bool.not_false, List.length_map, Int.not_lt, Int.not_le, ne_eq, Decidable.not_not] at hc2
      refine vc_skip ?_
      refine hK8 _ ?_
      refine vc_seq fun K9 hK9 => ?_
      refine vc_block ?_
      refine vc_seq fun K10 hK10 => ?_
      refine vc_region ?_
      refine vo_move_pv rfl rfl ?_
      refine vo_index_pv (.int .i64 0) rfl rfl rfl E50.und inf3 sz3 sd sd ?_
      simp only [Int.toNat_natCast, Int.toNat_zero, getD_ints, getD_intss, getD_bools, getD_bytes, PV.cells]
      refine vo_load_adr rfl rfl Try.underlying3 rfl ?_
      refine vo_assign_pv rfl rfl ?_
      refine vo_assign_pv rfl rfl ?_
      refine vo_nil ?_
      refine hK10 _ ?_
      refine vc_seq fun K11 hK11 => ?_
      refine vc_region ?_
      refine vo_move_pv rfl rfl ?_
      refine vo_move_pv rfl rfl ?_
      refine vo_slice_pv rfl rfl rfl rfl E50.und inf3 sz3 sd sd sd ?_
      simp only [Int.toNat_natCast, Int.toNat_zero, List.drop_zero, Nat.sub_zero, ← List.map_drop, ← List.map_take]
      refine vo_move_pv rfl rfl ?_
      refine vo_call0 Try.func103 rfl rfl rfl rfl (Contains_sat (by simp; omega)) ?_
      rintro _ _ ⟨rfl, rfl⟩
      refine ⟨rfl, rfl, .inl rfl, ?_⟩
      refine vo_nil ?_
      refine hK11 _ ?_
      refine vc_cond rfl (fun hc3 => ?_) (fun hc3 => ?_)
      · try simp only [decide_eq_true_eq, decide_eq_false_iff_not, beq_iff_eq, bne_iff_ne, beq_eq_false_iff_ne, bne_eq_false_iff_eq, Bool.not_eq_true, Bool.not_eq_false, Bool.not_eq_eq_eq_not, Bool.not_true, Bool.not_false, List.length_map, Int.not_lt, Int.not_le, ne_eq, Decidable.not_not] at hc3
        refine vc_seq fun K12 hK12 => ?_
        refine vc_region ?_
        refine vo_assign_pv rfl rfl ?_
        refine vo_nil ?_
        refine hK12 _ ?_
        refine vc_ret ?_
        change retPv _ _ _ _ _
        refine retPv_mk rfl rfl rfl ⟨?_, rfl⟩
        refine (congrArg (fun b => [bo b]) (?_ : _ = _) : [bo _] = [bo _])
        exact bF fun h => ((nodup_take_succ (by omega) 0).1 (nodup_take (k+1) h.2)).2 hc3
      · try simp only [decide_eq_true_eq, decide_eq_false_iff_not, beq_iff_eq, bne_iff_ne, beq_eq_false_iff_ne, bne_eq_false_iff_eq, Bool.not_eq_true, Bool.not_eq_false, Bool.not_eq_eq_eq_not, Bool.not_true, Bool.not_false, List.length_map, Int.not_lt, Int.not_le, ne_eq, Decidable.not_not] at hc3
        refine vc_skip ?_
        refine hK9 _ ?_
        refine vc_region ?_
        refine vo_binI rfl rfl rfl rfl sd ?_
        refine vo_move_pv rfl rfl ?_
        refine vo_nil ?_
        change againF _ _ _ _ _ _ _ _ _
        refine againF_mk rfl rfl rfl rfl rfl rfl ⟨_, ?_, k + 1, rfl, ?_, ?_, rfl⟩
        · omega
        · omega
        · exact (nodup_take_succ (by omega) 0).2 ⟨hf, hc3⟩
    · try simp only [decide_eq_true_eq, decide_eq_false_iff_not, beq_iff_eq, bne_iff_ne, beq_eq_false_iff_ne, bne_eq_false_iff_eq, Bool.not_eq_true, Bool.not_eq_false, Bool.not_eq_eq_eq_not, Bool.not_true, Bool.not_false, List.length_map, Int.not_lt, Int.not_le, ne_eq, Decidable.not_not] at hc2
      refine vc_exit ?_
      refine hK5 _ ?_
      refine vc_seq fun K13 hK13 => ?_
      refine vc_region ?_
      refine vo_assign_pv rfl rfl ?_
      refine vo_nil ?_
      refine hK13 _ ?_
      refine vc_ret ?_
      change retPv _ _ _ _ _
      refine retPv_mk rfl rfl rfl ⟨?_, rfl⟩
      refine (congrArg (fun b => [bo b]) (?_ : _ = _) : [bo _] = [bo _])
      rw [take_all (by omega)] at hf; exact bT ⟨by omega, hf⟩


end Go.Vl


namespace Go.Vl
set_option linter.unusedVariables false
set_option linter.unusedSimpArgs false
open Go.Proofs

/-- The classes above a class; none where there is no such class. -/
def abvR (b : List (List Int)) (c : Int) : List Int := if VB b ∧ 0 ≤ c ∧ c < b.length then abvL b c.toNat else []
end Go.Vl


namespace Go.Vl
set_option linter.unusedVariables false
set_option linter.unusedSimpArgs false
open Go.Proofs

end Go.Vl


namespace Go.Vl
set_option linter.unusedVariables false
set_option linter.unusedSimpArgs false
open Go.Proofs

def belR (b : List (List Int)) (c : Int) : List Int := if VB b ∧ 0 ≤ c ∧ c < b.length then belL b c.toNat else []
def OKLs (ls : List (List Int)) : Prop := (∀ l ∈ ls, OKL l 12) ∧ ls.length ≤ 6
instance {ls : List (List Int)} : Decidable (OKLs ls) := by unfold OKLs; infer_instance
def KeepP (long short : List Int) : Prop := OKL long 12 ∧ OKL short 12 ∧ kpN short long 0 = short.length
instance {a b : List Int} : Decidable (KeepP a b) := by unfold KeepP; infer_instance
def OC (b s : List (List Int)) : Prop := VS b s ∧ ∀ j, j < s.length → ∀ i, i < j → (s.getD i []).length > 0 → (s.getD j []).length > 0 → (i : Int) ∈ abvL b j
noncomputable instance {a b : List (List Int)} : Decidable (OC a b) := Classical.propDecidable _
end Go.Vl


namespace Go.Vl
set_option linter.unusedVariables false
set_option linter.unusedSimpArgs false
open Go.Proofs

theorem VB.take {b : List (List Int)} {k : Nat} (h : VB b) (h1 : 1 ≤ k) (h2 : k ≤ b.length) : VB (b.take k) := by
  obtain ⟨a1, a2, a3, a4⟩ := h
  have e : ∀ i, i < k → (b.take k).getD i [] = b.getD i [] := fun i hi => by simp [List.getD, List.getElem?_take, hi]
  have l : (b.take k).length = k := by rw [List.length_take]; omega
  exact ⟨by omega, by omega, by rw [e 0 (by omega)]; exact a3, fun i hi h0 => by rw [e i (by omega)]; exact a4 i (by omega) h0⟩
end Go.Vl


/- From a function's contract to the row of a law over bytes. -/
namespace Go.Vl
set_option linter.unusedVariables false
set_option linter.unusedSimpArgs false
open Go.RowKit Go.WideShapes

theorem okWide_spot {P : Program} {W : World} {base : Nat} {t e : TypeId} {a : Addr} {len cap : Nat} (hT : P.underlying t = some (.slice e)) (h : Value.okWide P W .any base t (.slice (some a) len cap)) :
    a.spot = none ∧ a.block < W.heap.size := by
  simp only [Value.okWide, hT, Cell.okWide, Cell.ok, World.has] at h
  obtain ⟨_, _, _, h1, row, cells, h2, _⟩ := h
  refine ⟨h1, ?_⟩
  unfold World.shape? at h2
  rcases Nat.lt_or_ge a.block W.heap.size with h3 | h3
  · exact h3
  · rw [Array.getElem?_eq_none h3] at h2; cases h2

/-- What is known of bytes that come in. -/
def BytesAt (w : World) (a0 : Option Addr) (len cap : Nat) : Prop :=
  (a0 = none ∧ len = 0 ∧ cap = 0) ∨ ∃ (x : Addr) (zs : List Int), a0 = some x ∧ x.spot = none ∧ x.block < w.heap.size ∧ len ≤ cap ∧ zs.length = cap ∧
    (∀ i, i < zs.length → w.cell? (x.add i) = some (.int .u8 (zs.getD i 0))) ∧ ∀ n ∈ zs, (Lit.int .u8 n).wf = true

theorem bytes_pv {w : World} {a0 : Option Addr} {len cap : Nat} {G : Nat → Prop} (hG : ∀ b, b < w.heap.size → G b) (h : BytesAt w a0 len cap) :
    ∃ (nl : Option Bool) (c : List (Fin 256)), RP w G (.sl nl 1 (c.map byteP)) (.slice a0 len cap) := by
  rcases h with ⟨rfl, rfl, rfl⟩ | ⟨x, zs, rfl, hs, hb, hl, hz, hc, hw⟩
  · exact ⟨none, [], .nilsl _ _ (by simp)⟩
  · have hbd : ∀ i, i < zs.length → 0 ≤ zs.getD i 0 ∧ zs.getD i 0 < 256 := by
      intro i hi
      have hm : zs.getD i 0 ∈ zs := by simp [List.getD, List.getElem?_eq_getElem hi]
      have := hw _ hm
      generalize zs.getD i 0 = n at this ⊢
      simp [Lit.wf, IntKind.min, IntKind.max, IntKind.bits, IntKind.signed] at this
      omega
    let c : List (Fin 256) := (List.range len).map fun i => ⟨(zs.getD i 0).toNat % 256, Nat.mod_lt _ (by omega)⟩
    refine ⟨none, c, .sl none 1 _ x len cap (fun i _ => .int .u8 (zs.getD i 0)) (by simp) (fun _ => hs) (by simp [c]) hl (fun _ => hG _ hb) ?_ ?_ ?_⟩
    · intro i y hy
      simp only [List.getElem?_map] at hy
      cases hci : c[i]? with
      | none => rw [hci] at hy; simp at hy
      | some z =>
        rw [hci] at hy
        simp only [Option.map_some, Option.some.injEq] at hy
        subst hy
        exact fits_of rfl
    · intro i y j d hy hd
      simp only [List.getElem?_map] at hy
      cases hci : c[i]? with
      | none => rw [hci] at hy; simp at hy
      | some z =>
        rw [hci] at hy
        simp only [Option.map_some, Option.some.injEq] at hy
        subst hy
        have hi : i < len := by
          rcases Nat.lt_or_ge i len with h1 | h1
          · exact h1
          · have : c[i]? = none := List.getElem?_eq_none (by simp [c]; exact h1)
            rw [this] at hci; cases hci
        have hj : j = 0 := by
          cases j with
          | zero => rfl
          | succ j => simp [PV.cells] at hd
        subst hj
        have := hc i (by omega)
        rw [← this]
        congr 1
        obtain ⟨xb, xo, xs⟩ := x
        simp only at hs
        subst hs
        simp [Addr.add]
    · intro i y j d hy hd
      simp only [List.getElem?_map] at hy
      cases hci : c[i]? with
      | none => rw [hci] at hy; simp at hy
      | some z =>
        rw [hci] at hy
        simp only [Option.map_some, Option.some.injEq] at hy
        subst hy
        have hi : i < len := by
          rcases Nat.lt_or_ge i len with h1 | h1
          · exact h1
          · have : c[i]? = none := List.getElem?_eq_none (by simp [c]; exact h1)
            rw [this] at hci; cases hci
        have hj : j = 0 := by
          cases j with
          | zero => rfl
          | succ j => simp [PV.cells] at hd
        subst hj
        have hd2 : d = byteP z := by simpa [PV.cells] using hd.symm
        subst hd2
        have hz2 : ((z.val : Nat) : Int) = zs.getD i 0 := by
          have e : c[i]? = some ⟨(zs.getD i 0).toNat % 256, Nat.mod_lt _ (by omega)⟩ := by simp [c, hi]
          rw [e] at hci
          simp only [Option.some.injEq] at hci
          have hb := hbd i (by omega)
          rw [← hci]
          show (((zs.getD i 0).toNat % 256 : Nat) : Int) = _
          omega
        rw [← hz2]
        exact .int _ _

end Go.Vl


/- From a function's contract to the row of a law over lists of numbers, and numbers. -/
namespace Go.Vl
set_option linter.unusedVariables false
set_option linter.unusedSimpArgs false
open Go.RowKit Go.WideShapes Go.ChangeShapes

/-- The setting of a law's call. -/
def C0 (w : World) : Ctx := ⟨w, fun b => b < w.heap.size, 0, fun _ => default⟩
def G0 (w : World) : Bool → Nat → Prop := Gd (C0 w) [] (fun _ => default) w
theorem G0_of {w : World} {b : Nat} (h : b < w.heap.size) : G0 w false b := by
  refine ⟨h, ?_, fun _ => .inl h, fun e => by cases e⟩
  rintro ⟨id, ⟨r, hr, _⟩, _⟩
  simp at hr

theorem law_gen {P : Program} {f : FuncId} {w : World} {args : List SV} {vals : Array Value} (hl : vals.size = args.length)
    (hv : ∀ (j : Nat) (a : SV), args[j]? = some a → RS w (G0 w) (fun _ => default) 0 a (vals.getD j undef))
    (h : SatAt P f args [] (fun res rows => res = [bo true] ∧ rows = [])) :
    Calls P f vals w fun e w' => e = .returned (.bool true) ∧ Below w.heap.size w w' := by
  have hsim : SimM (C0 w) ⟨vals.size, enumE 0 args, []⟩ (fun _ => default) ⟨vals, []⟩ w := {
    defs := rfl
    size := rfl
    os := rfl
    tape := rfl
    output := rfl
    hsz := Nat.le_refl _
    old := fun _ _ _ => rfl
    bor := fun id hid => by cases hid
    nbl := Nat.zero_le _
    newb := fun id b _ ⟨r, hr, _⟩ => by simp at hr
    dist := fun i j b ⟨r, hr, _⟩ => by simp at hr
    rows := fun id r hr => by simp at hr
    env := fun t => by
      show RS _ _ _ _ (look (enumE 0 _) t) _
      rw [look_enumE]
      simp only [Nat.zero_le, if_true, Nat.sub_zero]
      cases ha : args[t]? with
      | none => exact .any _
      | some a => exact hv t a ha }
  refine (h (C0 w) (fun _ => default) vals rfl (fun b hb => hb) hl hsim).mono fun e w' hx => ?_
  obtain ⟨us, res, rows', m', rfl, hus, hs, rfl, rfl⟩ := hx
  have hv := hs.env 0
  have h1 : us.size = 1 := hus
  refine ⟨?_, hs.os, hs.tape, hs.output, hs.hsz, fun k hk => hs.old k hk (fun id hid => by cases hid)⟩
  have hv : RS w' (Gd (C0 w) [] m' w') m' 0 (bo true) (us.getD 0 undef) := hv
  have hb := hv.pv_inv
  unfold pack
  rw [dif_pos h1]
  simp only [Array.getD, h1, Nat.lt_succ_self, dif_pos, Nat.zero_lt_one] at hb
  cases hu : us[0]
  all_goals (simp only [Array.getInternal_eq_getElem, hu] at hb; cases hb)
  rfl

section
variable {H : Type} {enc : TypeId × Value → H} {P : Program} {w : World} {base : Nat} {held : Bool}
end
end Go.Vl


/- Arguments of any type of numbers, truth values, slices and structs, opened by their types. -/
namespace Go.Vl
set_option linter.unusedVariables false
set_option linter.unusedSimpArgs false
open Go.RowKit Go.ChangeShapes Go.WideShapes Go.ChangeAt

/-- A value of the type reads as one of the values that pv tells. -/
def Opens (P : Program) (t : TypeId) (k : Nat) {α : Type} (pv : α → PV) (good : α → Prop) : Prop :=
  ∀ (H : Type) (enc : TypeId × Value → H) (w : World) (base : Nat) (held : Bool) (fuel : Nat) (cs : List Value) (x : DataW H × List MemPlace), DataW.trod enc P w base (fun _ => true) held fuel t cs = some x →
    ∃ a, good a ∧ (pv a).fits k ∧ cs.length = k ∧ ∀ (j : Nat) (c : PV) (v : Value), (pv a).cells[j]? = some c → cs[j]? = some v → RP w (G0 w false) c v

def i64R (n : Int) : Prop := -9223372036854775808 ≤ n ∧ n ≤ 9223372036854775807

/-- A struct, field by field, from a place on. -/
def OpenF (P : Program) (off : Nat) (fs : List Field) (k : Nat) {α : Type} (cells : α → List PV) (good : α → Prop) : Prop :=
  ∀ (H : Type) (enc : TypeId × Value → H) (w : World) (base : Nat) (held : Bool) (fuel : Nat) (cs : List Value),
    (∀ (i : Nat) (f : Field), fs[i]? = some f → ∃ x, DataW.trod enc P w base (fun _ => true) held fuel f.type ((cs.drop f.offset).take (P.cellsOf f.type)) = some x) →
    ∃ a, good a ∧ (cells a).length = k ∧ (∀ c ∈ cells a, c.isAgg = false) ∧ ∀ (j : Nat) (c : PV) (v : Value), (cells a)[j]? = some c → ((cs.drop off).take k)[j]? = some v → RP w (G0 w false) c v

/-- The value of an argument of one cell. -/
theorem Opens.one {P : Program} {t : TypeId} {α : Type} {pv : α → PV} {good : α → Prop} (h : Opens P t 1 pv good) (hna : ∀ a, (pv a).cells = [pv a]) {H : Type} {enc : TypeId × Value → H} {w : World} {base : Nat} {held : Bool} {v : Value} {d : DataW H} {ps : List MemPlace} (hv : v.cells.toList = [v])
    (hd : DataW.Trod enc P w base (fun _ => true) held t v d ps) : ∃ a, good a ∧ RP w (G0 w false) (pv a) v := by
  obtain ⟨fuel, hf⟩ := hd
  rw [hv] at hf
  obtain ⟨a, g1, g2, g3, g4⟩ := h H enc w base held fuel _ _ hf
  exact ⟨a, g1, g4 0 _ _ (by rw [hna]; rfl) rfl⟩

/-- The value of an argument that is a struct. -/
theorem Opens.agg {P : Program} {t k : Nat} {α : Type} {cells : α → List PV} {good : α → Prop} (h : Opens P t k (fun a => .agg (cells a)) good) {H : Type} {enc : TypeId × Value → H} {w : World} {base : Nat} {held : Bool} {cs : Array Value} {d : DataW H} {ps : List MemPlace}
    (hd : DataW.Trod enc P w base (fun _ => true) held t (.agg cs) d ps) : ∃ a, good a ∧ RP w (G0 w false) (.agg (cells a)) (.agg cs) := by
  obtain ⟨fuel, hf⟩ := hd
  obtain ⟨a, g1, g2, g3, g4⟩ := h H enc w base held fuel _ _ hf
  refine ⟨a, g1, .agg _ _ ?_ (fun j c hc => g2.2 j c hc) (fun j c v hc hv => g4 j c v hc ?_)⟩
  · have h1 : (cells a).length = k := g2.1
    have h2 : cs.toList.length = k := g3
    rw [h1, ← h2]; simp
  · show cs.toList[j]? = some v
    simpa using hv
end Go.Vl


namespace Go.Vl
set_option linter.unusedVariables false
set_option linter.unusedSimpArgs false
open Go.Proofs

structure OpM where
  who : Int
  name : Int
  value : Int
  gone : Bool
  deriving Inhabited, DecidableEq
abbrev opP (o : OpM) : PV := .agg [.int .i64 o.who, .int .i64 o.name, .int .i64 o.value, .bool o.gone]
abbrev pairP (p : Int × Int) : PV := .agg [.int .i64 p.1, .int .i64 p.2]
structure InstM where
  shares : Bool
  order : List Int
  values : List Int
  own : List (Int × Int)
  deriving Inhabited, DecidableEq
abbrev instP (x : InstM) : PV := .agg [.bool x.shares, .sl none 1 (x.order.map intP), .sl none 1 (x.values.map intP), .sl none 2 (x.own.map pairP)]
structure HeapM where
  keys : List Int
  insts : List InstM
  deriving Inhabited, DecidableEq
abbrev heapP (h : HeapM) : PV := .agg [.sl none 1 (h.keys.map intP), .sl none 4 (h.insts.map instP)]
theorem getD_map0 {α β : Type} (f : α → β) (l : List α) (k : Nat) (d : α) (d' : β) (h : f d = d') : (l.map f).getD k d' = f (l.getD k d) := by
  subst h
  simp only [List.getD, List.getElem?_map]
  cases l[k]? <;> rfl
theorem getD_ops (l : List OpM) (k : Nat) : (l.map opP).getD k (.agg [.int .i64 0, .int .i64 0, .int .i64 0, .bool false]) = opP (l.getD k ⟨0, 0, 0, false⟩) := getD_map0 opP l k ⟨0, 0, 0, false⟩ _ rfl
theorem getD_pairs (l : List (Int × Int)) (k : Nat) : (l.map pairP).getD k (.agg [.int .i64 0, .int .i64 0]) = pairP (l.getD k (0, 0)) := getD_map0 pairP l k (0, 0) _ rfl
theorem getD_insts (l : List InstM) (k : Nat) : (l.map instP).getD k (.agg [.bool false, .sl none 1 [], .sl none 1 [], .sl none 2 []]) = instP (l.getD k ⟨false, [], [], []⟩) := getD_map0 instP l k ⟨false, [], [], []⟩ _ rfl
theorem set_pairs (l : List (Int × Int)) (i : Nat) (x : Int × Int) : (l.map pairP).set i (pairP x) = (l.set i x).map pairP := by simp [List.map_set]
theorem set_pair1 (l : List (Int × Int)) (i : Nat) (a b : Int) : (l.map pairP).set i (.agg [.int .i64 a, .int .i64 b]) = (l.set i (a, b)).map pairP := set_pairs l i (a, b)
theorem app_pairs (l : List (Int × Int)) (a b : Int) : l.map pairP ++ [.agg [.int .i64 a, .int .i64 b]] = (l ++ [(a, b)]).map pairP := by simp
/-- A copy that is under way. -/
def cpy {α : Type} (d : α) (l : List α) (k : Nat) : List α := l.take k ++ List.replicate (l.length - k) d
def okOp (o : OpM) : Prop := (0 ≤ o.who ∧ o.who ≤ 3) ∧ (0 ≤ o.name ∧ o.name ≤ 9) ∧ (0 ≤ o.value ∧ o.value ≤ 99)
instance (o : OpM) : Decidable (okOp o) := by unfold okOp; exact inferInstance
def VOps (l : List OpM) : Prop := l.length ≤ 40 ∧ ∀ o ∈ l, okOp o
instance (l : List OpM) : Decidable (VOps l) := by unfold VOps; exact inferInstance

theorem specValidOps0_sat {nl0 : Option Bool} {list : List OpM} (hlist : list.length < 1000000000)  : SatAt Try.prog 55 [.pv false (.sl nl0 4 (list.map opP))] [] (fun res rows => res = [bo (decide (VOps list))] ∧ rows = []) := by
  refine sat_entry_G (rs := [(2, none)]) Try.func55 rfl rfl (Nat.le_of_ble_eq_true rfl) (Nat.le_of_ble_eq_true rfl) (resTs1 trivial) fun C hC => ?_
  rw [Try.ntmps55]
  replace hC : C.nb = 0 := hC
  refine vc_seq fun K1 hK1 => ?_
  refine vc_region ?_
  refine vo_assign_pv rfl rfl ?_
  refine vo_nil ?_
  refine hK1 _ ?_
  refine vc_seq fun K2 hK2 => ?_
  refine vc_seq fun K3 hK3 => ?_
  refine vc_region ?_
  refine vo_assign_pv rfl rfl ?_
  refine vo_nil ?_
  refine hK3 _ ?_
  refine vc_block ?_
  refine vc_stM ?_
  refine vc_loopE [0] [3] [] _ _ (fun mz vs rs => ∃ (k : Nat), mz = list.length - k ∧ (k ≤ list.length) ∧ (∀ o ∈ list.take k, okOp o) ∧ vs = [i64 k] ∧ rs = []) (list.length) rfl rfl (le_len hC rfl) ⟨rfl, rfl, rfl⟩ rfl ⟨0, rfl, Nat.zero_le _, (by simp), rfl, rfl⟩ ?_
  rintro mz vs rs - - ⟨k, rfl, hk, hf, rfl, rfl⟩
  refine vc_stM ?_
  refine vc_seq fun K4 hK4 => ?_
  refine vc_seq fun K5 hK5 => ?_
  refine vc_region ?_
  refine vo_move_pv rfl rfl ?_
  refine vo_move_pv rfl rfl ?_
  refine vo_len_pv rfl rfl Try.underlying23 ?_
  refine vo_binI rfl rfl rfl rfl trivial ?_
  refine vo_nil ?_
  refine hK5 _ ?_
  refine vc_cond rfl (fun hc1 => ?_) (fun hc1 => ?_)
  · try simp only [decide_eq_true_eq, decide_eq_false_iff_not, beq_iff_eq, bne_iff_ne, beq_eq_false_iff_ne, bne_eq_false_iff_eq, Bool.not_eq_true, Bool.not_eq_false, Bool.not_eq_eq_eq_not, Bool.not_true, Bool.not_false, List.length_map, Int.not_lt, Int.not_le, ne_eq, Decidable.not_not] at hc1
    refine vc_skip ?_
    refine hK4 _ ?_
    refine vc_seq fun K6 hK6 => ?_
    refine vc_block ?_
    refine vc_seq fun K7 hK7 => ?_
    refine vc_region ?_
    refine vo_move_pv rfl rfl ?_
    refine vo_move_pv rfl rfl ?_
    refine vo_index_pv (.agg [(.int .i64 0), (.int .i64 0), (.int .i64 0), (.bool false)]) rfl rfl rfl E23.und inf46 sz46 sd sd ?_
    simp only [Int.toNat_natCast, Int.toNat_zero, getD_ints, getD_intss, getD_bools, getD_bytes, PV.cells, getD_ops, getD_pairs, getD_insts]
    refine vo_load_adrS rfl rfl Try.underlying46 rfl inf46 sz46 rfl ?_
    refine vo_st (by (try simp only [St.put, PV.cells, PV.scal, List.drop_succ_cons, List.drop_zero, List.take_succ_cons, List.take_zero, List.map_cons, List.map_nil, Bool.or_true, Bool.or_false, Bool.false_or, Bool.true_or, opP, pairP, instP, heapP]); exact eq_refl _) ?_
    refine vo_alloc Z46 rfl ?_
    refine vo_stM ?_
    refine vo_store_varS rfl rfl rfl inf46 sz46 rfl ?_
    refine vo_stM ?_
    refine vo_nil ?_
    refine hK7 _ ?_
    refine vc_seq fun K8 hK8 => ?_
    refine vc_region ?_
    refine vo_fieldAddr_ptr rfl rfl Try.underlying46 rfl inf3 (by rw [sz3]; decide) ?_
    try simp only [Nat.zero_add]
    refine vo_load_var rfl rfl rfl Try.underlying3 rfl rfl ?_
    refine vo_call0 Try.func69 rfl rfl rfl rfl inRange_sat ?_
    rintro _ _ ⟨rfl, rfl⟩
    refine ⟨rfl, rfl, .inl rfl, ?_⟩
    refine vo_stM ?_
    refine vo_not rfl rfl ?_
    refine vo_move_pv rfl rfl ?_
    refine vo_split 19 rfl (fun hg2 => ?_) (fun hg2 => ?_)
    · try simp only [decide_eq_true_eq, decide_eq_false_iff_not, beq_iff_eq, bne_iff_ne, beq_eq_false_iff_ne, bne_eq_false_iff_eq, Bool.not_eq_true, Bool.not_eq_false, Bool.not_eq_eq_eq_not, Bool.not_true, Bool.not_false, List.length_map, Int.not_lt, Int.not_le, ne_eq, Decidable.not_not] at hg2
      refine vo_guard_off rfl rfl rfl rfl rfl ?_
      refine vo_guard_off rfl rfl rfl rfl rfl ?_
      refine vo_guard_off rfl rfl rfl rfl rfl ?_
      refine vo_guard_off rfl rfl rfl rfl rfl ?_
      refine vo_pick_t rfl rfl ?_
      refine vo_move_pv rfl rfl ?_
      refine vo_guard_off rfl rfl rfl rfl rfl ?_
      refine vo_guard_off rfl rfl rfl rfl rfl ?_
      refine vo_guard_off rfl rfl rfl rfl rfl ?_
      refine vo_guard_off rfl rfl rfl rfl rfl ?_
      refine vo_pick_t rfl rfl ?_
      refine vo_nil ?_
      refine hK8 _ ?_
      refine vc_cond_t rfl ?_
      refine vc_seq fun K9 hK9 => ?_
      refine vc_region ?_
      refine vo_assign_pv rfl rfl ?_
      refine vo_nil ?_
      refine hK9 _ ?_
      refine vc_ret ?_
      change retQ _ _ _ _ _
      refine retQ_sel [] (srows := []) (.inr rfl) hC rfl rfl rfl rfl rfl rfl rfl ?_
      refine ⟨?_, rfl⟩
      refine (congrArg (fun b => [bo b]) (?_ : _ = _) : [bo _] = [bo _])
      refine bF fun h => ?_
      have h1 := h.2 _ (getD_mem (show k < list.length by omega) ⟨0, 0, 0, false⟩)
      unfold okOp at h1; omega
    · try simp only [decide_eq_true_eq, decide_eq_false_iff_not, beq_iff_eq, bne_iff_ne, beq_eq_false_iff_ne, bne_eq_false_iff_eq, Bool.not_eq_true, Bool.not_eq_false, Bool.not_eq_eq_eq_not, Bool.not_true, Bool.not_false, List.length_map, Int.not_lt, Int.not_le, ne_eq, Decidable.not_not] at hg2
      refine vo_guard_on rfl rfl rfl ?_
      refine vo_fieldAddr_ptr rfl rfl Try.underlying46 rfl inf3 (by rw [sz3]; decide) ?_
      try simp only [Nat.zero_add]
      refine vo_guard_on rfl rfl rfl ?_
      refine vo_load_var rfl rfl rfl Try.underlying3 rfl rfl ?_
      refine vo_guard_on rfl rfl rfl ?_
      refine vo_call0 Try.func69 rfl rfl rfl rfl inRange_sat ?_
      rintro _ _ ⟨rfl, rfl⟩
      refine ⟨rfl, rfl, .inl rfl, ?_⟩
      refine vo_stM ?_
      refine vo_guard_on rfl rfl rfl ?_
      refine vo_not rfl rfl ?_
      refine vo_pick_f rfl rfl ?_
      refine vo_move_pv rfl rfl ?_
      refine vo_split 25 rfl (fun hg3 => ?_) (fun hg3 => ?_)
      · try simp only [decide_eq_true_eq, decide_eq_false_iff_not, beq_iff_eq, bne_iff_ne, beq_eq_false_iff_ne, bne_eq_false_iff_eq, Bool.not_eq_true, Bool.not_eq_false, Bool.not_eq_eq_eq_not, Bool.not_true, Bool.not_false, List.length_map, Int.not_lt, Int.not_le, ne_eq, Decidable.not_not] at hg3
        refine vo_guard_off rfl rfl rfl rfl rfl ?_
        refine vo_guard_off rfl rfl rfl rfl rfl ?_
        refine vo_guard_off rfl rfl rfl rfl rfl ?_
        refine vo_guard_off rfl rfl rfl rfl rfl ?_
        refine vo_pick_t rfl rfl ?_
        refine vo_nil ?_
        refine hK8 _ ?_
        refine vc_cond_t rfl ?_
        refine vc_seq fun K10 hK10 => ?_
        refine vc_region ?_
        refine vo_assign_pv rfl rfl ?_
        refine vo_nil ?_
        refine hK10 _ ?_
        refine vc_ret ?_
        change retQ _ _ _ _ _
        refine retQ_sel [] (srows := []) (.inr rfl) hC rfl rfl rfl rfl rfl rfl rfl ?_
        refine ⟨?_, rfl⟩
        refine (congrArg (fun b => [bo b]) (?_ : _ = _) : [bo _] = [bo _])
        refine bF fun h => ?_
        have h1 := h.2 _ (getD_mem (show k < list.length by omega) ⟨0, 0, 0, false⟩)
        unfold okOp at h1; omega
      · try simp only [decide_eq_true_eq, decide_eq_false_iff_not, beq_iff_eq, bne_iff_ne, beq_eq_false_iff_ne, bne_eq_false_iff_eq, Bool.not_eq_true, Bool.not_eq_false, Bool.not_eq_eq_eq_not, Bool.not_true, Bool.not_false, List.length_map, Int.not_lt, Int.not_le, ne_eq, Decidable.not_not] at hg3
        refine vo_guard_on rfl rfl rfl ?_
        refine vo_fieldAddr_ptr rfl rfl Try.underlying46 rfl inf3 (by rw [sz3]; decide) ?_
        try simp only [Nat.zero_add]
        refine vo_guard_on rfl rfl rfl ?_
        refine vo_load_var rfl rfl rfl Try.underlying3 rfl rfl ?_
        refine vo_guard_on rfl rfl rfl ?_
        refine vo_call0 Try.func69 rfl rfl rfl rfl inRange_sat ?_
        rintro _ _ ⟨rfl, rfl⟩
        refine ⟨rfl, rfl, .inl rfl, ?_⟩
        refine vo_stM ?_
        refine vo_guard_on rfl rfl rfl ?_
        refine vo_not rfl rfl ?_
        refine vo_pick_f rfl rfl ?_
        refine vo_nil ?_
        refine hK8 _ ?_
        refine vc_cond rfl (fun hc4 => ?_) (fun hc4 => ?_)
        · try simp only [decide_eq_true_eq, decide_eq_false_iff_not, beq_iff_eq, bne_iff_ne, beq_eq_false_iff_ne, bne_eq_false_iff_eq, Bool.not_eq_true, Bool.not_eq_false, Bool.not_eq_eq_eq_not, Bool.not_true, Bool.not_false, List.length_map, Int.not_lt, Int.not_le, ne_eq, Decidable.not_not] at hc4
          refine vc_seq fun K11 hK11 => ?_
          refine vc_region ?_
          refine vo_assign_pv rfl rfl ?_
          refine vo_nil ?_
          refine hK11 _ ?_
          refine vc_ret ?_
          change retQ _ _ _ _ _
          refine retQ_sel [] (srows := []) (.inr rfl) hC rfl rfl rfl rfl rfl rfl rfl ?_
          refine ⟨?_, rfl⟩
          refine (congrArg (fun b => [bo b]) (?_ : _ = _) : [bo _] = [bo _])
          refine bF fun h => ?_
          have h1 := h.2 _ (getD_mem (show k < list.length by omega) ⟨0, 0, 0, false⟩)
          unfold okOp at h1; omega
        · try simp only [decide_eq_true_eq, decide_eq_false_iff_not, beq_iff_eq, bne_iff_ne, beq_eq_false_iff_ne, bne_eq_false_iff_eq, Bool.not_eq_true, Bool.not_eq_false, Bool.not_eq_eq_eq_not, Bool.not_true, Bool.not_false, List.length_map, Int.not_lt, Int.not_le, ne_eq, Decidable.not_not] at hc4
          refine vc_skip ?_
          refine hK6 _ ?_
          refine vc_region ?_
          refine vo_move_pv rfl rfl ?_
          refine vo_binI rfl rfl rfl rfl sd ?_
          refine vo_assign_pv rfl rfl ?_
          refine vo_nil ?_
          change againE _ _ _ _ _ _ _ _ _ _
          refine againE_mk rfl rfl rfl rfl rfl rfl ⟨_, ?_, k + 1, rfl, ?_, ?_, rfl, rfl⟩
          · omega
          · omega
          · refine (all_take_succ (by omega) ⟨0, 0, 0, false⟩).2 ⟨hf, ?_⟩
            unfold okOp; omega
  · try simp only [decide_eq_true_eq, decide_eq_false_iff_not, beq_iff_eq, bne_iff_ne, beq_eq_false_iff_ne, bne_eq_false_iff_eq, Bool.not_eq_true, Bool.not_eq_false, Bool.not_eq_eq_eq_not, Bool.not_true, Bool.not_false, List.length_map, Int.not_lt, Int.not_le, ne_eq, Decidable.not_not] at hc1
    refine vc_exit ?_
    refine hK2 _ ?_
    refine vc_seq fun K12 hK12 => ?_
    refine vc_region ?_
    refine vo_move_pv rfl rfl ?_
    refine vo_len_pv rfl rfl Try.underlying23 ?_
    refine vo_binI rfl rfl rfl rfl trivial ?_
    refine vo_assign_pv rfl rfl ?_
    refine vo_nil ?_
    refine hK12 _ ?_
    refine vc_ret ?_
    change retQ _ _ _ _ _
    refine retQ_sel [] (srows := []) (.inr rfl) hC rfl rfl rfl rfl rfl rfl rfl ?_
    refine ⟨?_, rfl⟩
    refine (congrArg (fun b => [bo b]) (?_ : _ = _) : [bo _] = [bo _])
    rw [take_all (by omega)] at hf
    exact decide_eq_decide.2 ⟨fun h => ⟨by simp at h; omega, hf⟩, fun h => by have := h.1; simp; omega⟩


end Go.Vl


namespace Go.Vl
set_option linter.unusedVariables false
set_option linter.unusedSimpArgs false
open Go.Proofs
open Go.Proofs
end Go.Vl


namespace Go.Vl
set_option linter.unusedVariables false
set_option linter.unusedSimpArgs false
open Go.Proofs

/-- A reader that has given p numbers. -/
abbrev rdr (nl : Option Bool) (c : List (Fin 256)) (p : Nat) : Row := .var 113 [.pv false (.sl nl 1 (c.map byteP)), i64 p]
/-- Bases as the readers make them. -/
def SB (B : List (List Int)) : Prop := 1 ≤ B.length ∧ B.getD 0 [] = [] ∧ ∀ i, i < B.length → 0 < i → B.getD i [] ≠ [] ∧ (B.getD i []).length ≤ 3 ∧ (B.getD i []).Nodup ∧ ∀ x ∈ B.getD i [], 0 ≤ x ∧ x < i
theorem newReader_sat {nl : Option Bool} {c : List (Fin 256)} (hl : c.length < 1000000000) : SatAt Try.prog 53 [.pv false (.sl nl 1 (c.map byteP))] [] (fun res rows => ∃ nl2 c2, c2.length ≤ 2000 ∧ res = [.ptr 0 0 0 0] ∧ rows = [rdr nl2 c2 0]) := by
  refine sat_entry_g (ts := [2]) Try.func53 rfl rfl (by decide) (Nat.le_of_ble_eq_true rfl) fun C hC => ?_
  rw [Try.ntmps53]
  replace hC : C.nb = 0 := hC
  refine vc_seq fun K1 hK1 => ?_
  refine vc_region ?_
  refine vo_assign rfl ?_
  refine vo_nil ?_
  refine hK1 _ ?_
  refine vc_seq fun K2 hK2 => ?_
  refine vc_seq fun K3 hK3 => ?_
  refine vc_region ?_
  refine vo_move_pv rfl rfl ?_
  refine vo_len_pv rfl rfl Try.underlying22 ?_
  refine vo_binI rfl rfl rfl rfl trivial ?_
  refine vo_nil ?_
  refine hK3 _ ?_
  refine vc_cond rfl (fun hc1 => ?_) (fun hc1 => ?_)
  · try simp only [decide_eq_true_eq, decide_eq_false_iff_not, beq_iff_eq, bne_iff_ne, beq_eq_false_iff_ne, bne_eq_false_iff_eq, Bool.not_eq_true, Bool.not_eq_false, Bool.not_eq_eq_eq_not, Bool.not_true, Bool.not_false, List.length_map, Int.not_lt, Int.not_le, ne_eq, Decidable.not_not] at hc1
    refine vc_region ?_
    refine vo_move_pv rfl rfl ?_
    refine vo_slice_pv rfl rfl rfl rfl E22.und inf5 sz5 sd sd sd ?_
    simp only [Int.toNat_natCast, Int.toNat_zero, List.drop_zero, Nat.sub_zero, ← List.map_drop, ← List.map_take]
    refine vo_assign_pv rfl rfl ?_
    refine vo_nil ?_
    refine hK2 _ ?_
    refine vc_seq fun K4 hK4 => ?_
    refine vc_region ?_
    refine vo_move_pv rfl rfl ?_
    refine vo_build S113 rfl rfl rfl ?_
    refine vo_box rfl rfl ?_
    refine vo_assign_ptr rfl rfl ?_
    refine vo_nil ?_
    refine hK4 _ ?_
    refine vc_ret ?_
    change retG _ _ _ _ _
    refine retG_one 0 hC rfl rfl rfl rfl rfl ?_
    refine ⟨_, _, ?_, rfl, rfl⟩
    first | omega | (simp; omega)
  · try simp only [decide_eq_true_eq, decide_eq_false_iff_not, beq_iff_eq, bne_iff_ne, beq_eq_false_iff_ne, bne_eq_false_iff_eq, Bool.not_eq_true, Bool.not_eq_false, Bool.not_eq_eq_eq_not, Bool.not_true, Bool.not_false, List.length_map, Int.not_lt, Int.not_le, ne_eq, Decidable.not_not] at hc1
    refine vc_skip ?_
    refine hK2 _ ?_
    refine vc_seq fun K5 hK5 => ?_
    refine vc_region ?_
    refine vo_move_pv rfl rfl ?_
    refine vo_build S113 rfl rfl rfl ?_
    refine vo_box rfl rfl ?_
    refine vo_assign_ptr rfl rfl ?_
    refine vo_nil ?_
    refine hK5 _ ?_
    refine vc_ret ?_
    change retG _ _ _ _ _
    refine retG_one 0 hC rfl rfl rfl rfl rfl ?_
    refine ⟨_, _, ?_, rfl, rfl⟩
    first | omega | (simp; omega)


theorem pick_sat {nl : Option Bool} {c : List (Fin 256)} {p : Nat} {n : Int} (hc : c.length ≤ 2000) (hp : p < 1000000) : SatAt Try.prog 58 [.ptr 0 0 0 0, i64 n] [rdr nl c p] (fun res rows => ∃ x, (0 ≤ x ∧ (1 ≤ n → x < n)) ∧ res = [i64 x] ∧ rows = [rdr nl c (p + 1)]) := by
  have hL : ((c.map byteP).length : Int) = c.length := by simp
  refine sat_entry_g (ts := [4]) Try.func58 rfl rfl (by decide) (Nat.le_of_ble_eq_true rfl) fun C hC => ?_
  rw [Try.ntmps58]
  replace hC : C.nb = 1 := hC
  refine vc_seq fun K1 hK1 => ?_
  refine vc_region ?_
  refine vo_assign_pv rfl rfl ?_
  refine vo_nil ?_
  refine hK1 _ ?_
  refine vc_seq fun K2 hK2 => ?_
  refine vc_region ?_
  refine vo_move_ptr rfl rfl ?_
  refine vo_move_ptr rfl rfl ?_
  refine vo_nilCheck_ptr rfl rfl ?_
  refine vo_fieldAddr_ptr rfl rfl Try.underlying113 rfl inf3 (by rw [sz3]; decide) ?_
  refine vo_load_var rfl rfl rfl Try.underlying3 rfl rfl ?_
  refine vo_binI rfl rfl rfl rfl sd ?_
  refine vo_nilCheck_ptr rfl rfl ?_
  refine vo_fieldAddr_ptr rfl rfl Try.underlying113 rfl inf3 (by rw [sz3]; decide) ?_
  refine vo_store_var rfl rfl rfl rfl inf3 sz3 rfl ?_
  refine vo_nil ?_
  refine hK2 _ ?_
  refine vc_seq fun K3 hK3 => ?_
  refine vc_seq fun K4 hK4 => ?_
  refine vc_region ?_
  refine vo_move_pv rfl rfl ?_
  refine vo_binI rfl rfl rfl rfl trivial ?_
  refine vo_move_pv rfl rfl ?_
  refine vo_split 17 rfl (fun hg1 => ?_) (fun hg1 => ?_)
  · try simp only [decide_eq_true_eq, decide_eq_false_iff_not, beq_iff_eq, bne_iff_ne, beq_eq_false_iff_ne, bne_eq_false_iff_eq, Bool.not_eq_true, Bool.not_eq_false, Bool.not_eq_eq_eq_not, Bool.not_true, Bool.not_false, List.length_map, Int.not_lt, Int.not_le, ne_eq, Decidable.not_not] at hg1
    refine vo_guard_off rfl rfl rfl rfl rfl ?_
    refine vo_guard_off rfl rfl rfl rfl rfl ?_
    refine vo_guard_off rfl rfl rfl rfl rfl ?_
    refine vo_guard_off rfl rfl rfl rfl rfl ?_
    refine vo_guard_off rfl rfl rfl rfl rfl ?_
    refine vo_guard_off rfl rfl rfl rfl rfl ?_
    refine vo_pick_t rfl rfl ?_
    refine vo_nil ?_
    refine hK4 _ ?_
    refine vc_cond_t rfl ?_
    refine vc_seq fun K5 hK5 => ?_
    refine vc_region ?_
    refine vo_assign_pv rfl rfl ?_
    refine vo_nil ?_
    refine hK5 _ ?_
    refine vc_ret ?_
    change retG _ _ _ _ _
    refine retG_sel [] [] hC rfl rfl rfl rfl rfl rfl ?_
    exact ⟨_, ⟨by omega, by omega⟩, rfl, rfl⟩
  · try simp only [decide_eq_true_eq, decide_eq_false_iff_not, beq_iff_eq, bne_iff_ne, beq_eq_false_iff_ne, bne_eq_false_iff_eq, Bool.not_eq_true, Bool.not_eq_false, Bool.not_eq_eq_eq_not, Bool.not_true, Bool.not_false, List.length_map, Int.not_lt, Int.not_le, ne_eq, Decidable.not_not] at hg1
    refine vo_guard_on rfl rfl rfl ?_
    refine vo_move_ptr rfl rfl ?_
    refine vo_guard_on rfl rfl rfl ?_
    refine vo_nilCheck_ptr rfl rfl ?_
    refine vo_guard_on rfl rfl rfl ?_
    refine vo_fieldAddr_ptr rfl rfl Try.underlying113 rfl inf22 (by rw [sz22]; decide) ?_
    refine vo_guard_on rfl rfl rfl ?_
    refine vo_load_var rfl rfl rfl Try.underlying22 rfl rfl ?_
    refine vo_guard_on rfl rfl rfl ?_
    refine vo_len_pv rfl rfl Try.underlying22 ?_
    refine vo_guard_on rfl rfl rfl ?_
    refine vo_binI rfl rfl rfl rfl trivial ?_
    refine vo_pick_f rfl rfl ?_
    refine vo_nil ?_
    refine hK4 _ ?_
    refine vc_cond rfl (fun hc2 => ?_) (fun hc2 => ?_)
    · try simp only [decide_eq_true_eq, decide_eq_false_iff_not, beq_iff_eq, bne_iff_ne, beq_eq_false_iff_ne, bne_eq_false_iff_eq, Bool.not_eq_true, Bool.not_eq_false, Bool.not_eq_eq_eq_not, Bool.not_true, Bool.not_false, List.length_map, Int.not_lt, Int.not_le, ne_eq, Decidable.not_not] at hc2
      refine vc_seq fun K6 hK6 => ?_
      refine vc_region ?_
      refine vo_assign_pv rfl rfl ?_
      refine vo_nil ?_
      refine hK6 _ ?_
      refine vc_ret ?_
      change retG _ _ _ _ _
      refine retG_sel [] [] hC rfl rfl rfl rfl rfl rfl ?_
      exact ⟨_, ⟨by omega, by omega⟩, rfl, rfl⟩
    · try simp only [decide_eq_true_eq, decide_eq_false_iff_not, beq_iff_eq, bne_iff_ne, beq_eq_false_iff_ne, bne_eq_false_iff_eq, Bool.not_eq_true, Bool.not_eq_false, Bool.not_eq_eq_eq_not, Bool.not_true, Bool.not_false, List.length_map, Int.not_lt, Int.not_le, ne_eq, Decidable.not_not] at hc2
      refine vc_skip ?_
      refine hK3 _ ?_
      refine vc_seq fun K7 hK7 => ?_
      refine vc_region ?_
      refine vo_move_ptr rfl rfl ?_
      refine vo_nilCheck_ptr rfl rfl ?_
      refine vo_fieldAddr_ptr rfl rfl Try.underlying113 rfl inf3 (by rw [sz3]; decide) ?_
      refine vo_load_var rfl rfl rfl Try.underlying3 rfl rfl ?_
      refine vo_binI rfl rfl rfl rfl sd ?_
      refine vo_assign_pv rfl rfl ?_
      refine vo_nil ?_
      refine hK7 _ ?_
      refine vc_seq fun K8 hK8 => ?_
      refine vc_seq fun K9 hK9 => ?_
      refine vc_region ?_
      refine vo_move_pv rfl rfl ?_
      refine vo_move_ptr rfl rfl ?_
      refine vo_nilCheck_ptr rfl rfl ?_
      refine vo_fieldAddr_ptr rfl rfl Try.underlying113 rfl inf22 (by rw [sz22]; decide) ?_
      refine vo_load_var rfl rfl rfl Try.underlying22 rfl rfl ?_
      refine vo_len_pv rfl rfl Try.underlying22 ?_
      refine vo_binI rfl rfl rfl rfl trivial ?_
      refine vo_nil ?_
      refine hK9 _ ?_
      refine vc_cond rfl (fun hc3 => ?_) (fun hc3 => ?_)
      · try simp only [decide_eq_true_eq, decide_eq_false_iff_not, beq_iff_eq, bne_iff_ne, beq_eq_false_iff_ne, bne_eq_false_iff_eq, Bool.not_eq_true, Bool.not_eq_false, Bool.not_eq_eq_eq_not, Bool.not_true, Bool.not_false, List.length_map, Int.not_lt, Int.not_le, ne_eq, Decidable.not_not] at hc3
        refine vc_seq fun K10 hK10 => ?_
        refine vc_region ?_
        refine vo_move_ptr rfl rfl ?_
        refine vo_nilCheck_ptr rfl rfl ?_
        refine vo_fieldAddr_ptr rfl rfl Try.underlying113 rfl inf22 (by rw [sz22]; decide) ?_
        refine vo_load_var rfl rfl rfl Try.underlying22 rfl rfl ?_
        refine vo_move_pv rfl rfl ?_
        refine vo_index_pv (.int .u8 0) rfl rfl rfl E22.und inf5 sz5 sd sd ?_
        simp only [Int.toNat_natCast, Int.toNat_zero, getD_ints, getD_intss, getD_bools, getD_bytes, PV.cells]
        refine vo_load_adr rfl rfl Try.underlying5 rfl ?_
        refine vo_convI rfl rfl Try.underlying5 Try.underlying3 sd ?_
        refine vo_move_pv rfl rfl ?_
        refine vo_binI rfl rfl rfl rfl sd ?_
        refine vo_assign_pv rfl rfl ?_
        refine vo_nil ?_
        refine hK10 _ ?_
        refine vc_ret ?_
        change retG _ _ _ _ _
        refine retG_sel [] [] hC rfl rfl rfl rfl rfl rfl ?_
        exact ⟨_, ⟨Int.emod_nonneg _ (by omega), fun h => Int.emod_lt_of_pos _ (by omega)⟩, rfl, rfl⟩
      · try simp only [decide_eq_true_eq, decide_eq_false_iff_not, beq_iff_eq, bne_iff_ne, beq_eq_false_iff_ne, bne_eq_false_iff_eq, Bool.not_eq_true, Bool.not_eq_false, Bool.not_eq_eq_eq_not, Bool.not_true, Bool.not_false, List.length_map, Int.not_lt, Int.not_le, ne_eq, Decidable.not_not] at hc3
        have e1 : 0 ≤ ((p : Int) + 1 - 1) % ((c.map byteP).length : Int) := Int.emod_nonneg _ (by omega)
        have e2 : ((p : Int) + 1 - 1) % ((c.map byteP).length : Int) < ((c.map byteP).length : Int) := Int.emod_lt_of_pos _ (by omega)
        have e3 : 0 ≤ (((p : Int) + 1 - 1) * 7 + 3) % ((c.map byteP).length : Int) := Int.emod_nonneg _ (by omega)
        have e4 : (((p : Int) + 1 - 1) * 7 + 3) % ((c.map byteP).length : Int) < ((c.map byteP).length : Int) := Int.emod_lt_of_pos _ (by omega)
        have e5 : 0 ≤ ((p : Int) + 1 - 1) / ((c.map byteP).length : Int) := Int.ediv_nonneg (by omega) (by omega)
        have e6 : ((p : Int) + 1 - 1) / ((c.map byteP).length : Int) ≤ (p : Int) + 1 - 1 := Int.ediv_le_self _ (by omega)
        refine vc_skip ?_
        refine hK8 _ ?_
        refine vc_seq fun K11 hK11 => ?_
        refine vc_draw (by kernel_rfl) ?_
        change VD _ _ _ 46 _ _ _
        refine vd_light 0 rfl rfl rfl (by kernel_rfl) (by kernel_rfl) (by kernel_rfl) (wnt_none rfl) (lt_move_ptr rfl) ?_
        refine vd_light 1 rfl rfl rfl (by kernel_rfl) (by kernel_rfl) (by kernel_rfl) (wnt_none rfl) (lt_nilCheck_ptr rfl) ?_
        refine vd_light 2 rfl rfl rfl (by kernel_rfl) (by kernel_rfl) (by kernel_rfl) (wnt_none rfl) (lt_fieldAddr_ptr rfl Try.underlying113 rfl inf22 (by rw [sz22]; decide)) ?_
        refine vd_light 3 rfl rfl rfl (by kernel_rfl) (by kernel_rfl) (by kernel_rfl) (wnt_none rfl) (lt_load_var rfl rfl Try.underlying22 rfl rfl) ?_
        refine vd_light 4 rfl rfl rfl (by kernel_rfl) (by kernel_rfl) (by kernel_rfl) (wnt_none rfl) (lt_move_pv rfl) ?_
        refine vd_light 5 rfl rfl rfl (by kernel_rfl) (by kernel_rfl) (by kernel_rfl) (wnt_none rfl) (lt_move_ptr rfl) ?_
        refine vd_light 6 rfl rfl rfl (by kernel_rfl) (by kernel_rfl) (by kernel_rfl) (wnt_none rfl) (lt_nilCheck_ptr rfl) ?_
        refine vd_light 7 rfl rfl rfl (by kernel_rfl) (by kernel_rfl) (by kernel_rfl) (wnt_none rfl) (lt_fieldAddr_ptr rfl Try.underlying113 rfl inf22 (by rw [sz22]; decide)) ?_
        refine vd_light 8 rfl rfl rfl (by kernel_rfl) (by kernel_rfl) (by kernel_rfl) (wnt_none rfl) (lt_load_var rfl rfl Try.underlying22 rfl rfl) ?_
        refine vd_light 9 rfl rfl rfl (by kernel_rfl) (by kernel_rfl) (by kernel_rfl) (wnt_none rfl) (lt_len_pv rfl Try.underlying22) ?_
        refine vd_light 10 rfl rfl rfl (by kernel_rfl) (by kernel_rfl) (by kernel_rfl) (wnt_none rfl) (lt_binI rfl rfl rfl sd) ?_
        refine vd_light 11 rfl rfl rfl (by kernel_rfl) (by kernel_rfl) (by kernel_rfl) (wnt_none rfl) (lt_index_pv (.int .u8 0) rfl rfl E22.und inf5 sz5 sd sd) ?_
        simp only [Int.toNat_natCast, Int.toNat_zero, getD_ints, getD_intss, getD_bools, getD_bytes, PV.cells]
        refine vd_light 12 rfl rfl rfl (by kernel_rfl) (by kernel_rfl) (by kernel_rfl) (wnt_none rfl) (lt_load_adr rfl Try.underlying5 rfl) ?_
        refine vd_light 13 rfl rfl rfl (by kernel_rfl) (by kernel_rfl) (by kernel_rfl) (wnt_none rfl) (lt_convI rfl Try.underlying5 Try.underlying3 sd) ?_
        refine vd_light 14 rfl rfl rfl (by kernel_rfl) (by kernel_rfl) (by kernel_rfl) (wnt_none rfl) (lt_binI rfl rfl rfl sd) ?_
        refine vd_light 15 rfl rfl rfl (by kernel_rfl) (by kernel_rfl) (by kernel_rfl) (wnt_none rfl) (lt_move_ptr rfl) ?_
        refine vd_light 16 rfl rfl rfl (by kernel_rfl) (by kernel_rfl) (by kernel_rfl) (wnt_none rfl) (lt_nilCheck_ptr rfl) ?_
        refine vd_light 17 rfl rfl rfl (by kernel_rfl) (by kernel_rfl) (by kernel_rfl) (wnt_none rfl) (lt_fieldAddr_ptr rfl Try.underlying113 rfl inf22 (by rw [sz22]; decide)) ?_
        refine vd_light 18 rfl rfl rfl (by kernel_rfl) (by kernel_rfl) (by kernel_rfl) (wnt_none rfl) (lt_load_var rfl rfl Try.underlying22 rfl rfl) ?_
        refine vd_light 19 rfl rfl rfl (by kernel_rfl) (by kernel_rfl) (by kernel_rfl) (wnt_none rfl) (lt_move_pv rfl) ?_
        refine vd_light 20 rfl rfl rfl (by kernel_rfl) (by kernel_rfl) (by kernel_rfl) (wnt_none rfl) (lt_binI rfl rfl rfl sd) ?_
        refine vd_light 21 rfl rfl rfl (by kernel_rfl) (by kernel_rfl) (by kernel_rfl) (wnt_none rfl) (lt_binI rfl rfl rfl sd) ?_
        refine vd_light 22 rfl rfl rfl (by kernel_rfl) (by kernel_rfl) (by kernel_rfl) (wnt_none rfl) (lt_move_ptr rfl) ?_
        refine vd_light 23 rfl rfl rfl (by kernel_rfl) (by kernel_rfl) (by kernel_rfl) (wnt_none rfl) (lt_nilCheck_ptr rfl) ?_
        refine vd_light 24 rfl rfl rfl (by kernel_rfl) (by kernel_rfl) (by kernel_rfl) (wnt_none rfl) (lt_fieldAddr_ptr rfl Try.underlying113 rfl inf22 (by rw [sz22]; decide)) ?_
        refine vd_light 25 rfl rfl rfl (by kernel_rfl) (by kernel_rfl) (by kernel_rfl) (wnt_none rfl) (lt_load_var rfl rfl Try.underlying22 rfl rfl) ?_
        refine vd_light 26 rfl rfl rfl (by kernel_rfl) (by kernel_rfl) (by kernel_rfl) (wnt_none rfl) (lt_len_pv rfl Try.underlying22) ?_
        refine vd_light 27 rfl rfl rfl (by kernel_rfl) (by kernel_rfl) (by kernel_rfl) (wnt_none rfl) (lt_binI rfl rfl rfl sd) ?_
        refine vd_light 28 rfl rfl rfl (by kernel_rfl) (by kernel_rfl) (by kernel_rfl) (wnt_none rfl) (lt_index_pv (.int .u8 0) rfl rfl E22.und inf5 sz5 sd sd) ?_
        simp only [Int.toNat_natCast, Int.toNat_zero, getD_ints, getD_intss, getD_bools, getD_bytes, PV.cells]
        refine vd_light 29 rfl rfl rfl (by kernel_rfl) (by kernel_rfl) (by kernel_rfl) (wnt_none rfl) (lt_load_adr rfl Try.underlying5 rfl) ?_
        refine vd_light 30 rfl rfl rfl (by kernel_rfl) (by kernel_rfl) (by kernel_rfl) (wnt_none rfl) (lt_convI rfl Try.underlying5 Try.underlying3 sd) ?_
        refine vd_light 31 rfl rfl rfl (by kernel_rfl) (by kernel_rfl) (by kernel_rfl) (wnt_none rfl) (lt_binI rfl rfl rfl sd) ?_
        refine vd_light 32 rfl rfl rfl (by kernel_rfl) (by kernel_rfl) (by kernel_rfl) (wnt_none rfl) (lt_binI rfl rfl rfl sd) ?_
        refine vd_light 33 rfl rfl rfl (by kernel_rfl) (by kernel_rfl) (by kernel_rfl) (wnt_none rfl) (lt_move_pv rfl) ?_
        refine vd_light 34 rfl rfl rfl (by kernel_rfl) (by kernel_rfl) (by kernel_rfl) (wnt_none rfl) (lt_binI rfl rfl rfl sd) ?_
        refine vd_light 35 rfl rfl rfl (by kernel_rfl) (by kernel_rfl) (by kernel_rfl) (wnt_none rfl) (lt_binI rfl rfl rfl sd) ?_
        refine vd_light 36 rfl rfl rfl (by kernel_rfl) (by kernel_rfl) (by kernel_rfl) (wnt_none rfl) (lt_move_pv rfl) ?_
        refine vd_light 37 rfl rfl rfl (by kernel_rfl) (by kernel_rfl) (by kernel_rfl) (wnt_none rfl) (lt_move_ptr rfl) ?_
        refine vd_light 38 rfl rfl rfl (by kernel_rfl) (by kernel_rfl) (by kernel_rfl) (wnt_none rfl) (lt_nilCheck_ptr rfl) ?_
        refine vd_light 39 rfl rfl rfl (by kernel_rfl) (by kernel_rfl) (by kernel_rfl) (wnt_none rfl) (lt_fieldAddr_ptr rfl Try.underlying113 rfl inf22 (by rw [sz22]; decide)) ?_
        refine vd_light 40 rfl rfl rfl (by kernel_rfl) (by kernel_rfl) (by kernel_rfl) (wnt_none rfl) (lt_load_var rfl rfl Try.underlying22 rfl rfl) ?_
        refine vd_light 41 rfl rfl rfl (by kernel_rfl) (by kernel_rfl) (by kernel_rfl) (wnt_none rfl) (lt_len_pv rfl Try.underlying22) ?_
        refine vd_light 42 rfl rfl rfl (by kernel_rfl) (by kernel_rfl) (by kernel_rfl) (wnt_none rfl) (lt_binI rfl rfl rfl sd) ?_
        refine vd_light 43 rfl rfl rfl (by kernel_rfl) (by kernel_rfl) (by kernel_rfl) (wnt_none rfl) (lt_binI rfl rfl rfl sd) ?_
        refine vd_light 44 rfl rfl rfl (by kernel_rfl) (by kernel_rfl) (by kernel_rfl) (wnt_none rfl) (lt_binI rfl rfl rfl sd) ?_
        refine vd_light 45 rfl rfl rfl (by kernel_rfl) (by kernel_rfl) (by kernel_rfl) (wnt_none rfl) (lt_assign_pv rfl) ?_
        refine vd_nil (by kernel_rfl) ?_
        refine hK11 _ ?_
        refine vc_seq fun K12 hK12 => ?_
        refine vc_region ?_
        refine vo_move_pv rfl rfl ?_
        refine vo_move_pv rfl rfl ?_
        refine vo_binI rfl rfl rfl rfl sd ?_
        refine vo_xor rfl rfl rfl sd sd sd sd ?_
        refine vo_assign_pv rfl rfl ?_
        refine vo_nil ?_
        refine hK12 _ ?_
        refine vc_seq fun K13 hK13 => ?_
        refine vc_region ?_
        refine vo_move_pv rfl rfl ?_
        refine vo_move_pv rfl rfl ?_
        refine vo_binI rfl rfl rfl rfl sd ?_
        refine vo_assign_pv rfl rfl ?_
        refine vo_nil ?_
        refine hK13 _ ?_
        refine vc_ret ?_
        change retG _ _ _ _ _
        refine retG_sel [] [] hC rfl rfl rfl rfl rfl rfl ?_
        exact ⟨_, ⟨Int.emod_nonneg _ (by omega), fun h => Int.emod_lt_of_pos _ (by omega)⟩, rfl, rfl⟩


theorem one_sat {nl : Option Bool} {c : List (Fin 256)} {p : Nat} {nl2 : Option Bool} {list : List Int} (hc : c.length ≤ 2000) (hp : p < 1000000) (hn : list ≠ []) (hl : list.length < 1000000000) : SatAt Try.prog 65 [.ptr 0 0 0 0, .pv false (.sl nl2 1 (list.map intP))] [rdr nl c p] (fun res rows => ∃ x, x ∈ list ∧ res = [i64 x] ∧ rows = [rdr nl c (p + 1)]) := by
  have hL : ((list.map intP).length : Int) = list.length := by simp
  have hN := List.length_pos_iff.2 hn
  refine sat_entry_g (ts := [4]) Try.func65 rfl rfl (by decide) (Nat.le_of_ble_eq_true rfl) fun C hC => ?_
  rw [Try.ntmps65]
  replace hC : C.nb = 1 := hC
  refine vc_seq fun K1 hK1 => ?_
  refine vc_region ?_
  refine vo_assign_pv rfl rfl ?_
  refine vo_nil ?_
  refine hK1 _ ?_
  refine vc_seq fun K2 hK2 => ?_
  refine vc_region ?_
  refine vo_move_pv rfl rfl ?_
  refine vo_move_ptr rfl rfl ?_
  refine vo_move_pv rfl rfl ?_
  refine vo_len_pv rfl rfl Try.underlying50 ?_
  refine vo_call [0] Try.func58 rfl rfl rfl rfl rfl rfl rfl (pick_sat hc (by omega)) ?_
  rintro _ _ ⟨x, ⟨hx0, hx1⟩, rfl, rfl⟩
  refine ⟨Nat.le_of_ble_eq_true rfl, ⟨rfl, rfl, rfl, rfl⟩, .inl rfl, ?_⟩
  refine vo_stN ?_
  refine vo_index_pv (.int .i64 0) rfl rfl rfl E50.und inf3 sz3 sd sd ?_
  simp only [Int.toNat_natCast, Int.toNat_zero, getD_ints, getD_intss, getD_bools, getD_bytes, PV.cells]
  refine vo_load_adr rfl rfl Try.underlying3 rfl ?_
  refine vo_assign_pv rfl rfl ?_
  refine vo_nil ?_
  refine hK2 _ ?_
  refine vc_ret ?_
  change retG _ _ _ _ _
  refine retG_sel [] [] hC rfl rfl rfl rfl rfl rfl ?_
  exact ⟨_, getD_mem (by omega) 0, rfl, rfl⟩

end Go.Vl


namespace Go.Vl
set_option linter.unusedVariables false
set_option linter.unusedSimpArgs false
open Go.Proofs

end Go.Vl


/- Operations that read no memory come at any time, behind those that write too. -/
namespace Go.Vl
set_option linter.unusedVariables false
set_option linter.unusedSimpArgs false
open Go.RowKit
section
variable {P : Program} {C : Ctx} {s : St} {t : Nat} {ty : TypeId} {pos : String} {af : Array Edge}

theorem l0_slice_ref {x : Operand} {lo hi : Option Operand} {id R e : Nat} {nl : Option Bool} {xs : List PV} {T el : TypeId} {inf : TypeInfo} {l h : Int}
    (hx : getO s.env x = .ref id) (hrow : (s.rows[id]?).bind Row.sl = some (R, e, nl, xs)) (hl : bnd s.env lo 0 = some l) (hh : bnd s.env hi xs.length = some h)
    (hT : P.underlying T = some (.slice el)) (hinf : P.info? el = some inf) (hsz : inf.size = e) (h0 : 0 ≤ l) (h1 : l ≤ h) (h2 : h ≤ xs.length) :
    Lt0 P C s ⟨some t, .slice T x lo hi none, ty, pos, af, none⟩ (.sub id e l.toNat h.toNat xs.length) := by
  intro m a w hs
  obtain ⟨hv, hid⟩ := hs.row hx
  obtain ⟨⟨vals, hown⟩, _, _, _⟩ := hs.sl hrow
  obtain ⟨l', rfl⟩ := Int.eq_ofNat_of_zero_le h0
  obtain ⟨h', rfl⟩ := Int.eq_ofNat_of_zero_le (Int.le_trans h0 h1)
  simp only [Int.toNat_natCast]
  have g1 : l' ≤ h' := by omega
  have g2 : h' ≤ xs.length := by omega
  rcases hown.2 with ⟨e0, hn0⟩ | ⟨g, cap, cur, e0, _, hh', hle, hmx, hsz', htk⟩
  · have hb := fun w1 => sliceBounds_ok (P := P) (w1 := w1) (len := 0) (cap := 0) hs hl hh (fun _ => hn0.symm) g1 (by omega)
    have hl0 : l' = 0 := by omega
    have hh0 : h' = 0 := by omega
    subst hl0; subst hh0
    rw [e0] at hv
    refine ⟨.slice none 0 0, fun w1 => ?_, .sub id e 0 0 xs.length _ hid (.inl ⟨e0, rfl, rfl, hn0, rfl⟩)⟩
    simp [execOp, Instr.sliceAt, Instr.slice, run_underlying hT, hv, hb w1, sizeOf, typeInfo, hinf, hsz]
  · have hb := fun w1 => sliceBounds_ok (P := P) (w1 := w1) (len := xs.length) (cap := cap) hs hl hh (fun _ => rfl) g1 (by omega)
    rw [e0] at hv
    refine ⟨.slice (some (if cap = l' then ⟨g, 0, none⟩ else ⟨g, l' * e, none⟩)) (h' - l') (cap - l'), fun w1 => ?_, .sub id e l' h' xs.length _ hid (.inr ⟨g, xs.length, cap, e0, g1, g2, hle, rfl⟩)⟩
    have hA : (if cap = l' then some (⟨g, 0, none⟩ : Addr) else some ((⟨g, 0, none⟩ : Addr).add (l' * e))) = some (if cap = l' then ⟨g, 0, none⟩ else ⟨g, l' * e, none⟩) := by
      split <;> simp [addr_mul]
    simp [execOp, Instr.sliceAt, Instr.slice, run_underlying hT, hv, hb w1, sizeOf, typeInfo, hinf, hsz, hA]

end
end Go.Vl


namespace Go.Vl
set_option linter.unusedVariables false
set_option linter.unusedSimpArgs false
open Go.Proofs

theorem someOps_sat {nl : Option Bool} {c : List (Fin 256)} {p : Nat} (hc : c.length ≤ 2000) (hp : p < 999000) : SatAt Try.prog 52 [.ptr 0 0 0 0] [rdr nl c p] (fun res rows => ∃ (l : List OpM) (q : Nat), (l.length ≤ 20 ∧ q ≤ p + 300) ∧ res = [.ref 1] ∧ rows = [rdr nl c q, Row.own 46 4 (some false) true (l.map opP)]) := by
  refine sat_entry_G (rs := [(2, none)]) Try.func52 rfl rfl (Nat.le_of_ble_eq_true rfl) (Nat.le_of_ble_eq_true rfl) (resTs1 trivial) fun C hC => ?_
  rw [Try.ntmps52]
  replace hC : C.nb = 1 := hC
  refine vc_seq fun K1 hK1 => ?_
  refine vc_region ?_
  refine vo_assign_pv rfl rfl ?_
  refine vo_nil ?_
  refine hK1 _ ?_
  refine vc_seq fun K2 hK2 => ?_
  refine vc_region ?_
  refine vo_buildSlice E23 rfl rfl rfl rfl rfl ?_
  refine vo_stM ?_
  refine vo_assign_ref rfl rfl ?_
  refine vo_nil ?_
  refine hK2 _ ?_
  refine vc_seq fun K3 hK3 => ?_
  refine vc_seq fun K4 hK4 => ?_
  refine vc_region ?_
  refine vo_move_ptr rfl rfl ?_
  refine vo_buildSlice E50 rfl rfl rfl rfl rfl ?_
  refine vo_stM ?_
  refine vo_expose 2 (by omega) rfl ?_
  refine vo_stM ?_
  refine vo_weaken 7 rfl ?_
  refine vo_stM ?_
  refine vo_call [0] Try.func65 rfl rfl rfl rfl rfl rfl rfl (one_sat (list := [_,_,_,_,_,_]) hc (by omega) (by simp) (by simp)) ?_
  rintro _ _ ⟨y8, hy8, rfl, rfl⟩
  refine ⟨Nat.le_of_ble_eq_true rfl, ⟨rfl, rfl, rfl, rfl⟩, .inl rfl, ?_⟩
  refine vo_stM ?_
  refine vo_assign_pv rfl rfl ?_
  refine vo_nil ?_
  refine hK4 _ ?_
  refine vc_block ?_
  refine vc_stM ?_
  refine vc_loopE [0] [3, 4] [0, 1] _ _ (fun mz vs rs => ∃ (l : List OpM) (q : Nat) (n : Int), mz = n.toNat ∧ ((0 ≤ n ∧ l.length + n ≤ 20)) ∧ ((q + 7 * n ≤ p + 200)) ∧ vs = [.ref 1, i64 n] ∧ rs = [rdr nl c q, Row.own 46 4 (some false) true (l.map opP)]) (y8.toNat) rfl rfl (le_len hC rfl) ⟨rfl, rfl, rfl⟩ rfl ⟨[], p+1, y8, rfl, (by simp at hy8; simp; omega), (by simp at hy8; omega), rfl, rfl⟩ ?_
  rintro mz vs rs - - ⟨l, q, n, rfl, hn, hq, rfl, rfl⟩
  refine vc_stM ?_
  refine vc_seq fun K5 hK5 => ?_
  refine vc_seq fun K6 hK6 => ?_
  refine vc_region ?_
  refine vo_move_pv rfl rfl ?_
  refine vo_binI rfl rfl rfl rfl trivial ?_
  refine vo_nil ?_
  refine hK6 _ ?_
  refine vc_cond rfl (fun hc1 => ?_) (fun hc1 => ?_)
  · try simp only [decide_eq_true_eq, decide_eq_false_iff_not, beq_iff_eq, bne_iff_ne, beq_eq_false_iff_ne, bne_eq_false_iff_eq, Bool.not_eq_true, Bool.not_eq_false, Bool.not_eq_eq_eq_not, Bool.not_true, Bool.not_false, List.length_map, Int.not_lt, Int.not_le, ne_eq, Decidable.not_not] at hc1
    refine vc_skip ?_
    refine hK5 _ ?_
    refine vc_seq fun K7 hK7 => ?_
    refine vc_block ?_
    refine vc_region ?_
    refine vo_move_ref rfl rfl ?_
    refine vo_move_ptr rfl rfl ?_
    refine vo_move_ptr rfl rfl ?_
    refine vo_call [0] Try.func58 rfl rfl rfl rfl rfl rfl rfl (pick_sat hc (by omega)) ?_
    rintro _ _ ⟨x16, ⟨hx160, hx161⟩, rfl, rfl⟩
    refine ⟨Nat.le_of_ble_eq_true rfl, ⟨rfl, rfl, rfl, rfl⟩, .inl rfl, ?_⟩
    refine vo_stM ?_
    refine vo_buildSlice E50 rfl rfl rfl rfl rfl ?_
    refine vo_stM ?_
    refine vo_expose 3 (by omega) rfl ?_
    refine vo_stM ?_
    refine vo_weaken 17 rfl ?_
    refine vo_stM ?_
    refine vo_call [0] Try.func65 rfl rfl rfl rfl rfl rfl rfl (one_sat (list := [_,_,_,_]) hc (by omega) (by simp) (by simp)) ?_
    rintro _ _ ⟨y18, hy18, rfl, rfl⟩
    refine ⟨Nat.le_of_ble_eq_true rfl, ⟨rfl, rfl, rfl, rfl⟩, .inl rfl, ?_⟩
    refine vo_stM ?_
    refine vo_move_ptr rfl rfl ?_
    refine vo_move_ptr rfl rfl ?_
    refine vo_call [0] Try.func58 rfl rfl rfl rfl rfl rfl rfl (pick_sat hc (by omega)) ?_
    rintro _ _ ⟨x21, ⟨hx210, hx211⟩, rfl, rfl⟩
    refine ⟨Nat.le_of_ble_eq_true rfl, ⟨rfl, rfl, rfl, rfl⟩, .inl rfl, ?_⟩
    refine vo_stM ?_
    refine vo_buildSlice E50 rfl rfl rfl rfl rfl ?_
    refine vo_stM ?_
    refine vo_expose 4 (by omega) rfl ?_
    refine vo_stM ?_
    refine vo_weaken 22 rfl ?_
    refine vo_stM ?_
    refine vo_call [0] Try.func65 rfl rfl rfl rfl rfl rfl rfl (one_sat (list := [_,_,_,_,_]) hc (by omega) (by simp) (by simp)) ?_
    rintro _ _ ⟨y23, hy23, rfl, rfl⟩
    refine ⟨Nat.le_of_ble_eq_true rfl, ⟨rfl, rfl, rfl, rfl⟩, .inl rfl, ?_⟩
    refine vo_stM ?_
    refine vo_move_ptr rfl rfl ?_
    refine vo_call [0] Try.func58 rfl rfl rfl rfl rfl rfl rfl (pick_sat hc (by omega)) ?_
    rintro _ _ ⟨x25, ⟨hx250, hx251⟩, rfl, rfl⟩
    refine ⟨Nat.le_of_ble_eq_true rfl, ⟨rfl, rfl, rfl, rfl⟩, .inl rfl, ?_⟩
    refine vo_stM ?_
    refine vo_move_ptr rfl rfl ?_
    refine vo_call [0] Try.func58 rfl rfl rfl rfl rfl rfl rfl (pick_sat hc (by omega)) ?_
    rintro _ _ ⟨x27, ⟨hx270, hx271⟩, rfl, rfl⟩
    refine ⟨Nat.le_of_ble_eq_true rfl, ⟨rfl, rfl, rfl, rfl⟩, .inl rfl, ?_⟩
    refine vo_stM ?_
    refine vo_binI rfl rfl rfl rfl trivial ?_
    refine vo_build S46 rfl rfl rfl ?_
    refine vo_stM ?_
    refine vo_buildSlice E23 rfl rfl rfl rfl rfl ?_
    refine vo_stM ?_
    refine vo_append E23 rfl (by omega) rfl rfl rfl sd sd ?_
    refine vo_stM ?_
    try simp only [app_ints, app_intss, app_bools]
    refine vo_assign_ref rfl rfl ?_
    refine vo_nil ?_
    refine hK7 _ ?_
    refine vc_region ?_
    refine vo_move_pv rfl rfl ?_
    refine vo_binI rfl rfl rfl rfl sd ?_
    refine vo_assign_pv rfl rfl ?_
    refine vo_nil ?_
    change againE _ _ _ _ _ _ _ _ _ _
    refine againE_mk rfl rfl rfl rfl rfl rfl ⟨_, ?_, l ++ [⟨y18, y23, x25, decide (x27 = 0)⟩], q + 6, n - 1, rfl, ?_, ?_, rfl, (by simp only [List.map_append]; rfl)⟩
    · omega
    · refine ⟨by omega, ?_⟩; rw [List.length_append, List.length_singleton]; omega
    · omega
  · try simp only [decide_eq_true_eq, decide_eq_false_iff_not, beq_iff_eq, bne_iff_ne, beq_eq_false_iff_ne, bne_eq_false_iff_eq, Bool.not_eq_true, Bool.not_eq_false, Bool.not_eq_eq_eq_not, Bool.not_true, Bool.not_false, List.length_map, Int.not_lt, Int.not_le, ne_eq, Decidable.not_not] at hc1
    refine vc_exit ?_
    refine hK3 _ ?_
    refine vc_seq fun K8 hK8 => ?_
    refine vc_seq fun K9 hK9 => ?_
    refine vc_region ?_
    refine vo_move_ref rfl rfl ?_
    refine vo_len_ref rfl rfl rfl Try.underlying23 ?_
    refine vo_binI rfl rfl rfl rfl trivial ?_
    refine vo_move_pv rfl rfl ?_
    refine vo_split 35 rfl (fun hg2 => ?_) (fun hg2 => ?_)
    · try simp only [decide_eq_true_eq, decide_eq_false_iff_not, beq_iff_eq, bne_iff_ne, beq_eq_false_iff_ne, bne_eq_false_iff_eq, Bool.not_eq_true, Bool.not_eq_false, Bool.not_eq_eq_eq_not, Bool.not_true, Bool.not_false, List.length_map, Int.not_lt, Int.not_le, ne_eq, Decidable.not_not] at hg2
      obtain ⟨o, l, rfl⟩ := List.exists_cons_of_length_pos (show 0 < l.length by omega)
      have hl9 : (o :: l).length ≤ 20 := by omega
      refine vo_guard_on rfl rfl rfl ?_
      refine vo_move_ptr rfl rfl ?_
      refine vo_guard_on rfl rfl rfl ?_
      refine vo_call [0] Try.func58 rfl rfl rfl rfl rfl rfl rfl (pick_sat hc (by omega)) ?_
      rintro _ _ ⟨x37, ⟨hx370, hx371⟩, rfl, rfl⟩
      refine ⟨Nat.le_of_ble_eq_true rfl, ⟨rfl, rfl, rfl, rfl⟩, .inl rfl, ?_⟩
      refine vo_stM ?_
      refine vo_guard_on rfl rfl rfl ?_
      refine vo_binI rfl rfl rfl rfl trivial ?_
      refine vo_pick_t rfl rfl ?_
      refine vo_nil ?_
      refine hK9 _ ?_
      refine vc_cond rfl (fun hc3 => ?_) (fun hc3 => ?_)
      · try simp only [decide_eq_true_eq, decide_eq_false_iff_not, beq_iff_eq, bne_iff_ne, beq_eq_false_iff_ne, bne_eq_false_iff_eq, Bool.not_eq_true, Bool.not_eq_false, Bool.not_eq_eq_eq_not, Bool.not_true, Bool.not_false, List.length_map, Int.not_lt, Int.not_le, ne_eq, Decidable.not_not] at hc3
        refine vc_region ?_
        refine vo_move_ref rfl rfl ?_
        refine vo_move_ptr rfl rfl ?_
        refine vo_buildSlice E50 rfl rfl rfl rfl rfl ?_
        refine vo_stM ?_
        refine vo_expose 3 (by omega) rfl ?_
        refine vo_stM ?_
        refine vo_weaken 42 rfl ?_
        refine vo_stM ?_
        refine vo_call [0] Try.func65 rfl rfl rfl rfl rfl rfl rfl (one_sat (list := [_,_]) hc (by omega) (by simp) (by simp)) ?_
        rintro _ _ ⟨y43, hy43, rfl, rfl⟩
        refine ⟨Nat.le_of_ble_eq_true rfl, ⟨rfl, rfl, rfl, rfl⟩, .inl rfl, ?_⟩
        refine vo_stM ?_
        refine vo_index_ref rfl rfl rfl rfl E23.und inf46 sz46 sd sd ?_
        try simp only [Int.toNat_natCast]
        refine vo_fieldAddr_ptr rfl rfl Try.underlying46 rfl inf3 (by rw [sz3]; decide) ?_
        try simp only [Nat.zero_add]
        refine vo_store_ownC rfl rfl rfl rfl inf3 sz3 rfl rfl ?_
        try simp only [List.set_cons_zero, List.set_cons_succ, Int.toNat_natCast, Int.toNat_zero]
        refine vo_stM ?_
        refine vo_nil ?_
        refine hK8 _ ?_
        refine vc_seq fun K10 hK10 => ?_
        refine vc_region ?_
        refine vo_move_ref rfl rfl ?_
        refine vo_assign_ref rfl rfl ?_
        refine vo_nil ?_
        refine hK10 _ ?_
        refine vc_ret ?_
        change retQ _ _ _ _ _
        refine retQ_sel [1] (srows := [_]) (.inr rfl) hC rfl rfl rfl rfl rfl rfl rfl ?_
        exact ⟨⟨o.who, y43, o.value, o.gone⟩ :: l, _, ⟨hl9, by omega⟩, rfl, rfl⟩
      · try simp only [decide_eq_true_eq, decide_eq_false_iff_not, beq_iff_eq, bne_iff_ne, beq_eq_false_iff_ne, bne_eq_false_iff_eq, Bool.not_eq_true, Bool.not_eq_false, Bool.not_eq_eq_eq_not, Bool.not_true, Bool.not_false, List.length_map, Int.not_lt, Int.not_le, ne_eq, Decidable.not_not] at hc3
        refine vc_skip ?_
        refine hK8 _ ?_
        refine vc_seq fun K11 hK11 => ?_
        refine vc_region ?_
        refine vo_move_ref rfl rfl ?_
        refine vo_assign_ref rfl rfl ?_
        refine vo_nil ?_
        refine hK11 _ ?_
        refine vc_ret ?_
        change retQ _ _ _ _ _
        refine retQ_sel [1] (srows := [_]) (.inr rfl) hC rfl rfl rfl rfl rfl rfl rfl ?_
        exact ⟨o :: l, _, ⟨hl9, by omega⟩, rfl, rfl⟩
    · try simp only [decide_eq_true_eq, decide_eq_false_iff_not, beq_iff_eq, bne_iff_ne, beq_eq_false_iff_ne, bne_eq_false_iff_eq, Bool.not_eq_true, Bool.not_eq_false, Bool.not_eq_eq_eq_not, Bool.not_true, Bool.not_false, List.length_map, Int.not_lt, Int.not_le, ne_eq, Decidable.not_not] at hg2
      refine vo_guard_off rfl rfl rfl rfl rfl ?_
      refine vo_guard_off rfl rfl rfl rfl rfl ?_
      refine vo_guard_off rfl rfl rfl rfl rfl ?_
      refine vo_pick_f rfl rfl ?_
      refine vo_nil ?_
      refine hK9 _ ?_
      refine vc_cond_f rfl ?_
      refine vc_skip ?_
      refine hK8 _ ?_
      refine vc_seq fun K12 hK12 => ?_
      refine vc_region ?_
      refine vo_move_ref rfl rfl ?_
      refine vo_assign_ref rfl rfl ?_
      refine vo_nil ?_
      refine hK12 _ ?_
      refine vc_ret ?_
      change retQ _ _ _ _ _
      refine retQ_sel [1] (srows := [_]) (.inr rfl) hC rfl rfl rfl rfl rfl rfl rfl ?_
      exact ⟨l, _, ⟨by omega, by omega⟩, rfl, rfl⟩


end Go.Vl


namespace Go.Vl
set_option linter.unusedVariables false
set_option linter.unusedSimpArgs false
open Go.Proofs
open Go.Proofs
def nms (l : List (Int × Int)) : List Int := l.map Prod.fst
theorem getD_nms (l : List (Int × Int)) (k : Nat) : (nms l).getD k 0 = (l.getD k (0, 0)).1 := getD_map0 Prod.fst l k (0, 0) 0 rfl
@[simp] theorem nms_len (l : List (Int × Int)) : (nms l).length = l.length := by simp [nms]
theorem take_nms (l : List (Int × Int)) (k : Nat) : (nms l).take k = nms (l.take k) := by simp [nms]
theorem findM_nms (n : Int) (l : List (Int × Int)) (k : Nat) (h : k < l.length) : findM n ((nms l).drop k) k = if (l.getD k (0, 0)).1 = n then (k : Int) else findM n ((nms l).drop (k+1)) (k+1) := by
  rw [findM_drop _ _ _ (by rw [nms_len]; exact h), getD_nms]
theorem nodup_nms_succ {l : List (Int × Int)} {k : Nat} (h : k < l.length) : (nms (l.take (k+1))).Nodup ↔ (nms (l.take k)).Nodup ∧ (l.getD k (0, 0)).1 ∉ nms (l.take k) := by
  rw [← take_nms, ← take_nms, nodup_take_succ (by rw [nms_len]; exact h) 0, getD_nms]
theorem nodup_nms_take {l : List (Int × Int)} (k : Nat) (h : (nms l).Nodup) : (nms (l.take k)).Nodup := by
  rw [← take_nms]; exact nodup_take k h
theorem app_nm1 (l : List (Int × Int)) (k : Nat) (h : k < l.length) : nms (l.take k) ++ [(l.getD k (0, 0)).1] = nms (l.take (k+1)) := by
  have : l.take (k+1) = l.take k ++ [l.getD k (0,0)] := by rw [List.take_add_one, List.getD, List.getElem?_eq_getElem h]; rfl
  rw [this]; simp [nms]
def SPairs (a b : List (Int × Int)) : Prop := a.length ≤ 40 ∧ (nms a).Nodup ∧ a.length = b.length ∧ ∀ p ∈ a, p ∈ b
instance (a b : List (Int × Int)) : Decidable (SPairs a b) := by unfold SPairs; exact inferInstance
theorem findM_pos_iff {n : Int} {l : List Int} : ∀ {k : Int}, 0 ≤ k → 0 ≤ findM n l k → ∃ i, i < l.length ∧ findM n l k = k + i ∧ l.getD i 0 = n ∧ ∀ j, j < i → l.getD j 0 ≠ n := by
  induction l with
  | nil => intro k hk h; simp [findM] at h
  | cons x xs ih =>
    intro k hk h
    by_cases hx : x = n
    · exact ⟨0, by simp, by simp [findM, hx], by simp [hx], fun j hj => by omega⟩
    · have e : findM n (x :: xs) k = findM n xs (k + 1) := by simp [findM, hx]
      rw [e] at h
      obtain ⟨i, hi, h1, h2, h3⟩ := ih (by omega) h
      refine ⟨i + 1, by simp; omega, by rw [e, h1]; push_cast; omega, by simpa using h2, fun j hj => ?_⟩
      cases j with
      | zero => simpa using hx
      | succ j => simpa using h3 j (by omega)
/-- The value that a name has in pairs of different names. -/
theorem pair_at {b : List (Int × Int)} {n : Int} {z : Nat} (hz : findM n (nms b) 0 = z) : z < b.length ∧ (b.getD z (0,0)).1 = n := by
  obtain ⟨i, hi, h1, h2, _⟩ := findM_pos_iff (n := n) (l := nms b) (k := 0) (by omega) (by omega)
  have : i = z := by omega
  subst this
  rw [getD_nms] at h2; rw [nms_len] at hi
  exact ⟨hi, h2⟩
theorem pair_mem_nms {p : Int × Int} {b : List (Int × Int)} (h : p ∈ b) : p.1 ∈ nms b := List.mem_map_of_mem h
theorem pair_uniq {b : List (Int × Int)} (h : (nms b).Nodup) {p q : Int × Int} (hp : p ∈ b) (hq : q ∈ b) (e : p.1 = q.1) : p = q := by
  induction b with
  | nil => cases hp
  | cons x xs ih =>
    simp only [nms, List.map_cons, List.nodup_cons] at h
    rcases List.mem_cons.1 hp with hp1 | hp1 <;> rcases List.mem_cons.1 hq with hq1 | hq1
    · rw [hp1, hq1]
    · subst hp1; exact absurd (by rw [e]; exact pair_mem_nms hq1) h.1
    · subst hq1; exact absurd (by rw [← e]; exact pair_mem_nms hp1) h.1
    · exact ih h.2 hp1 hq1
theorem perm_of_sub {α : Type} [DecidableEq α] : ∀ {a b : List α}, a.Nodup → b.length ≤ a.length → (∀ p ∈ a, p ∈ b) → a.Perm b
  | [], b, _, hl, _ => by have : b = [] := List.length_eq_zero_iff.1 (by simpa using hl); subst this; exact .nil
  | x :: xs, b, ha, hl, hs => by
    have hx : x ∈ b := hs x (by simp)
    have h1 : b.Perm (x :: b.erase x) := List.perm_cons_erase hx
    have hn := List.nodup_cons.1 ha
    refine (List.Perm.cons x (perm_of_sub hn.2 ?_ fun p hp => ?_)).trans h1.symm
    · have := h1.length_eq; simp at this hl; omega
    · have hne : p ≠ x := fun e => hn.1 (by rw [← e]; exact hp)
      exact (List.mem_erase_of_ne hne).2 (hs p (by simp [hp]))
/-- Lists of one length: if the first has different names and lies in the other, the other has different names. -/
theorem nodup_of_sub {a b : List (Int × Int)} (ha : (nms a).Nodup) (hl : b.length ≤ a.length) (hs : ∀ p ∈ a, p ∈ b) : (nms b).Nodup := by
  have h1 : a.Nodup := by
    have := ha
    simp only [nms, List.nodup_iff_pairwise_ne, List.pairwise_map] at this
    exact List.Pairwise.imp (fun h e => h (by rw [e])) this
  have hp : a.Perm b := perm_of_sub h1 hl hs
  exact (hp.map Prod.fst).nodup_iff.1 ha
theorem Q37 : EqI2 Try.prog 37 := by
  refine ⟨fun x y x' y' w => ?_, by kernel_rfl⟩
  have hS : Try.prog.underlying 37 = some (.struct (Try.prog.fieldsOf 37)) := by kernel_rfl
  have hp : Try.prog.stoodInHeld 37 = false := by kernel_rfl
  have u3 := Try.underlying3
  have a3 := Try.isAgg3
  have z3 := Try.sizeOf3
  rw [show (10000 : Nat) = 9999 + 1 from rfl, run_equalIn_agg w 9999 37 _ _ hS hp]
  simp only [Program.fieldsOf, Try.underlying37]
  go_simp
  by_cases h1 : x = x' <;> by_cases h2 : y = y' <;> simp [h1, h2]

theorem pairAt_sat {nl0 : Option Bool} {list : List (Int × Int)} {name : Int} (hlist : list.length < 1000000000)  : SatAt Try.prog 62 [.pv false (.sl nl0 2 (list.map pairP)), i64 name] [] (fun res rows => res = [i64 (findM name (nms list) 0)] ∧ rows = []) := by
  refine sat_entry_G (rs := [(4, none)]) Try.func62 rfl rfl (Nat.le_of_ble_eq_true rfl) (Nat.le_of_ble_eq_true rfl) (resTs1 trivial) fun C hC => ?_
  rw [Try.ntmps62]
  replace hC : C.nb = 0 := hC
  refine vc_seq fun K1 hK1 => ?_
  refine vc_region ?_
  refine vo_assign_pv rfl rfl ?_
  refine vo_nil ?_
  refine hK1 _ ?_
  refine vc_seq fun K2 hK2 => ?_
  refine vc_seq fun K3 hK3 => ?_
  refine vc_region ?_
  refine vo_assign_pv rfl rfl ?_
  refine vo_nil ?_
  refine hK3 _ ?_
  refine vc_block ?_
  refine vc_stM ?_
  refine vc_loopE [0, 1] [5] [] _ _ (fun mz vs rs => ∃ (k : Nat), mz = list.length - k ∧ (k ≤ list.length) ∧ (findM name (nms list) 0 = findM name ((nms list).drop k) k) ∧ vs = [i64 k] ∧ rs = []) (list.length) rfl rfl (le_len hC rfl) ⟨rfl, rfl, rfl⟩ rfl ⟨0, rfl, Nat.zero_le _, rfl, rfl, rfl⟩ ?_
  rintro mz vs rs - - ⟨k, rfl, hk, hf, rfl, rfl⟩
  refine vc_stM ?_
  refine vc_seq fun K4 hK4 => ?_
  refine vc_seq fun K5 hK5 => ?_
  refine vc_region ?_
  refine vo_move_pv rfl rfl ?_
  refine vo_move_pv rfl rfl ?_
  refine vo_len_pv rfl rfl Try.underlying32 ?_
  refine vo_binI rfl rfl rfl rfl trivial ?_
  refine vo_nil ?_
  refine hK5 _ ?_
  refine vc_cond rfl (fun hc1 => ?_) (fun hc1 => ?_)
  · try simp only [decide_eq_true_eq, decide_eq_false_iff_not, beq_iff_eq, bne_iff_ne, beq_eq_false_iff_ne, bne_eq_false_iff_eq, Bool.not_eq_true, Bool.not_eq_false, Bool.not_eq_eq_eq_not, Bool.not_true, Bool.not_false, List.length_map, Int.not_lt, Int.not_le, ne_eq, Decidable.not_not] at hc1
    refine vc_skip ?_
    refine hK4 _ ?_
    refine vc_seq fun K6 hK6 => ?_
    refine vc_block ?_
    refine vc_seq fun K7 hK7 => ?_
    refine vc_region ?_
    refine vo_move_pv rfl rfl ?_
    refine vo_move_pv rfl rfl ?_
    refine vo_index_pv (.agg [(.int .i64 0), (.int .i64 0)]) rfl rfl rfl E32.und inf37 sz37 sd sd ?_
    simp only [Int.toNat_natCast, Int.toNat_zero, getD_ints, getD_intss, getD_bools, getD_bytes, PV.cells, getD_ops, getD_pairs, getD_insts]
    refine vo_fieldAddr_adr rfl rfl Try.underlying37 rfl inf3 (by rw [sz3]; decide) ?_
    refine vo_load_adr rfl rfl Try.underlying3 rfl ?_
    refine vo_move_pv rfl rfl ?_
    refine vo_binI rfl rfl rfl rfl trivial ?_
    refine vo_nil ?_
    refine hK7 _ ?_
    refine vc_cond rfl (fun hc2 => ?_) (fun hc2 => ?_)
    · try simp only [decide_eq_true_eq, decide_eq_false_iff_not, beq_iff_eq, bne_iff_ne, beq_eq_false_iff_ne, bne_eq_false_iff_eq, Bool.not_eq_true, Bool.not_eq_false, Bool.not_eq_eq_eq_not, Bool.not_true, Bool.not_false, List.length_map, Int.not_lt, Int.not_le, ne_eq, Decidable.not_not] at hc2
      refine vc_seq fun K8 hK8 => ?_
      refine vc_region ?_
      refine vo_move_pv rfl rfl ?_
      refine vo_assign_pv rfl rfl ?_
      refine vo_nil ?_
      refine hK8 _ ?_
      refine vc_ret ?_
      change retQ _ _ _ _ _
      refine retQ_sel [] (srows := []) (.inr rfl) hC rfl rfl rfl rfl rfl rfl rfl ?_
      refine ⟨?_, rfl⟩
      refine (congrArg (fun b => [i64 b]) (?_ : _ = _) : [i64 _] = [i64 _])
      rw [hf, findM_nms _ _ _ (by omega), if_pos (by omega)]
    · try simp only [decide_eq_true_eq, decide_eq_false_iff_not, beq_iff_eq, bne_iff_ne, beq_eq_false_iff_ne, bne_eq_false_iff_eq, Bool.not_eq_true, Bool.not_eq_false, Bool.not_eq_eq_eq_not, Bool.not_true, Bool.not_false, List.length_map, Int.not_lt, Int.not_le, ne_eq, Decidable.not_not] at hc2
      refine vc_skip ?_
      refine hK6 _ ?_
      refine vc_region ?_
      refine vo_move_pv rfl rfl ?_
      refine vo_binI rfl rfl rfl rfl sd ?_
      refine vo_assign_pv rfl rfl ?_
      refine vo_nil ?_
      change againE _ _ _ _ _ _ _ _ _ _
      refine againE_mk rfl rfl rfl rfl rfl rfl ⟨_, ?_, k + 1, rfl, ?_, ?_, rfl, rfl⟩
      · omega
      · omega
      · rw [hf, findM_nms _ _ _ (by omega), if_neg (by omega)]; rfl
  · try simp only [decide_eq_true_eq, decide_eq_false_iff_not, beq_iff_eq, bne_iff_ne, beq_eq_false_iff_ne, bne_eq_false_iff_eq, Bool.not_eq_true, Bool.not_eq_false, Bool.not_eq_eq_eq_not, Bool.not_true, Bool.not_false, List.length_map, Int.not_lt, Int.not_le, ne_eq, Decidable.not_not] at hc1
    refine vc_exit ?_
    refine hK2 _ ?_
    refine vc_seq fun K9 hK9 => ?_
    refine vc_region ?_
    refine vo_assign_pv rfl rfl ?_
    refine vo_nil ?_
    refine hK9 _ ?_
    refine vc_ret ?_
    change retQ _ _ _ _ _
    refine retQ_sel [] (srows := []) (.inr rfl) hC rfl rfl rfl rfl rfl rfl rfl ?_
    refine ⟨?_, rfl⟩
    refine (congrArg (fun b => [i64 b]) (?_ : _ = _) : [i64 _] = [i64 _])
    rw [hf, show k = (nms list).length by rw [nms_len]; omega, List.drop_length]; rfl


theorem goodPairs_sat {nl0 : Option Bool} {list : List (Int × Int)} (hlist : list.length < 1000000000)  : SatAt Try.prog 61 [.pv false (.sl nl0 2 (list.map pairP))] [] (fun res rows => res = [bo (decide (list.length ≤ 40 ∧ (nms list).Nodup))] ∧ rows = []) := by
  refine sat_entry_G (rs := [(2, none)]) Try.func61 rfl rfl (Nat.le_of_ble_eq_true rfl) (Nat.le_of_ble_eq_true rfl) (resTs1 trivial) fun C hC => ?_
  rw [Try.ntmps61]
  replace hC : C.nb = 0 := hC
  refine vc_seq fun K1 hK1 => ?_
  refine vc_region ?_
  refine vo_assign_pv rfl rfl ?_
  refine vo_nil ?_
  refine hK1 _ ?_
  refine vc_seq fun K2 hK2 => ?_
  refine vc_seq fun K3 hK3 => ?_
  refine vc_region ?_
  refine vo_assign_pv rfl rfl ?_
  refine vo_nil ?_
  refine hK3 _ ?_
  refine vc_block ?_
  refine vc_stM ?_
  refine vc_loopE [0] [3] [] _ _ (fun mz vs rs => ∃ (k : Nat), mz = list.length - k ∧ (k ≤ list.length) ∧ ((nms (list.take k)).Nodup) ∧ vs = [i64 k] ∧ rs = []) (list.length) rfl rfl (le_len hC rfl) ⟨rfl, rfl, rfl⟩ rfl ⟨0, rfl, Nat.zero_le _, (by simp [nms]), rfl, rfl⟩ ?_
  rintro mz vs rs - - ⟨k, rfl, hk, hf, rfl, rfl⟩
  refine vc_stM ?_
  refine vc_seq fun K4 hK4 => ?_
  refine vc_seq fun K5 hK5 => ?_
  refine vc_region ?_
  refine vo_move_pv rfl rfl ?_
  refine vo_move_pv rfl rfl ?_
  refine vo_len_pv rfl rfl Try.underlying32 ?_
  refine vo_binI rfl rfl rfl rfl trivial ?_
  refine vo_nil ?_
  refine hK5 _ ?_
  refine vc_cond rfl (fun hc1 => ?_) (fun hc1 => ?_)
  · try simp only [decide_eq_true_eq, decide_eq_false_iff_not, beq_iff_eq, bne_iff_ne, beq_eq_false_iff_ne, bne_eq_false_iff_eq, Bool.not_eq_true, Bool.not_eq_false, Bool.not_eq_eq_eq_not, Bool.not_true, Bool.not_false, List.length_map, Int.not_lt, Int.not_le, ne_eq, Decidable.not_not] at hc1
    refine vc_skip ?_
    refine hK4 _ ?_
    refine vc_seq fun K6 hK6 => ?_
    refine vc_block ?_
    refine vc_seq fun K7 hK7 => ?_
    refine vc_draw (by kernel_rfl) ?_
    change VD _ _ _ 10 _ _ _
    refine vd_light 0 rfl rfl rfl (by kernel_rfl) (by kernel_rfl) (by kernel_rfl) (wnt_none rfl) (lt_move_pv rfl) ?_
    refine vd_light 1 rfl rfl rfl (by kernel_rfl) (by kernel_rfl) (by kernel_rfl) (wnt_none rfl) (lt_move_pv rfl) ?_
    refine vd_light 2 rfl rfl rfl (by kernel_rfl) (by kernel_rfl) (by kernel_rfl) (wnt_none rfl) (lt_slice_pv rfl rfl rfl E32.und inf37 sz37 sd sd sd) ?_
    simp only [Int.toNat_natCast, Int.toNat_zero, List.drop_zero, Nat.sub_zero, ← List.map_drop, ← List.map_take]
    refine vd_light 3 rfl rfl rfl (by kernel_rfl) (by kernel_rfl) (by kernel_rfl) (wnt_none rfl) (lt_move_pv rfl) ?_
    refine vd_light 4 rfl rfl rfl (by kernel_rfl) (by kernel_rfl) (by kernel_rfl) (wnt_none rfl) (lt_move_pv rfl) ?_
    refine vd_light 5 rfl rfl rfl (by kernel_rfl) (by kernel_rfl) (by kernel_rfl) (wnt_none rfl) (lt_index_pv (.agg [(.int .i64 0), (.int .i64 0)]) rfl rfl E32.und inf37 sz37 sd sd) ?_
    simp only [Int.toNat_natCast, Int.toNat_zero, getD_ints, getD_intss, getD_bools, getD_bytes, PV.cells, getD_ops, getD_pairs, getD_insts]
    refine vd_light 6 rfl rfl rfl (by kernel_rfl) (by kernel_rfl) (by kernel_rfl) (wnt_none rfl) (lt_fieldAddr_adr rfl Try.underlying37 rfl inf3 (by rw [sz3]; decide)) ?_
    refine vd_light 7 rfl rfl rfl (by kernel_rfl) (by kernel_rfl) (by kernel_rfl) (wnt_none rfl) (lt_load_adr rfl Try.underlying3 rfl) ?_
    refine vd_call 8 rfl (by kernel_rfl) (wnt_none rfl) Try.func62 rfl rfl rfl rfl (pairAt_sat (list := list.take k) (by simp; omega)) ?_
    rintro _ _ ⟨rfl, rfl⟩
    refine ⟨rfl, rfl, .inl rfl, ?_⟩
    refine vd_stM ?_
    refine vd_light 9 rfl rfl rfl (by kernel_rfl) (by kernel_rfl) (by kernel_rfl) (wnt_none rfl) (lt_binI rfl rfl rfl trivial) ?_
    refine vd_nil (by kernel_rfl) ?_
    refine hK7 _ ?_
    refine vc_cond rfl (fun hc2 => ?_) (fun hc2 => ?_)
    · try simp only [decide_eq_true_eq, decide_eq_false_iff_not, beq_iff_eq, bne_iff_ne, beq_eq_false_iff_ne, bne_eq_false_iff_eq, Bool.not_eq_true, Bool.not_eq_false, Bool.not_eq_eq_eq_not, Bool.not_true, Bool.not_false, List.length_map, Int.not_lt, Int.not_le, ne_eq, Decidable.not_not] at hc2
      refine vc_seq fun K8 hK8 => ?_
      refine vc_region ?_
      refine vo_assign_pv rfl rfl ?_
      refine vo_nil ?_
      refine hK8 _ ?_
      refine vc_ret ?_
      change retQ _ _ _ _ _
      refine retQ_sel [] (srows := []) (.inr rfl) hC rfl rfl rfl rfl rfl rfl rfl ?_
      refine ⟨?_, rfl⟩
      refine (congrArg (fun b => [bo b]) (?_ : _ = _) : [bo _] = [bo _])
      exact bF fun h => ((nodup_nms_succ (by omega)).1 (nodup_nms_take (k+1) h.2)).2 ((findM_mem _ _ 0 (by omega)).1 (by omega))
    · try simp only [decide_eq_true_eq, decide_eq_false_iff_not, beq_iff_eq, bne_iff_ne, beq_eq_false_iff_ne, bne_eq_false_iff_eq, Bool.not_eq_true, Bool.not_eq_false, Bool.not_eq_eq_eq_not, Bool.not_true, Bool.not_false, List.length_map, Int.not_lt, Int.not_le, ne_eq, Decidable.not_not] at hc2
      refine vc_skip ?_
      refine hK6 _ ?_
      refine vc_region ?_
      refine vo_move_pv rfl rfl ?_
      refine vo_binI rfl rfl rfl rfl sd ?_
      refine vo_assign_pv rfl rfl ?_
      refine vo_nil ?_
      change againE _ _ _ _ _ _ _ _ _ _
      refine againE_mk rfl rfl rfl rfl rfl rfl ⟨_, ?_, k + 1, rfl, ?_, ?_, rfl, rfl⟩
      · omega
      · omega
      · exact (nodup_nms_succ (by omega)).2 ⟨hf, (findM_not _ _ 0 (by omega)).1 (by omega)⟩
  · try simp only [decide_eq_true_eq, decide_eq_false_iff_not, beq_iff_eq, bne_iff_ne, beq_eq_false_iff_ne, bne_eq_false_iff_eq, Bool.not_eq_true, Bool.not_eq_false, Bool.not_eq_eq_eq_not, Bool.not_true, Bool.not_false, List.length_map, Int.not_lt, Int.not_le, ne_eq, Decidable.not_not] at hc1
    refine vc_exit ?_
    refine hK2 _ ?_
    refine vc_seq fun K9 hK9 => ?_
    refine vc_region ?_
    refine vo_move_pv rfl rfl ?_
    refine vo_len_pv rfl rfl Try.underlying32 ?_
    refine vo_binI rfl rfl rfl rfl trivial ?_
    refine vo_assign_pv rfl rfl ?_
    refine vo_nil ?_
    refine hK9 _ ?_
    refine vc_ret ?_
    change retQ _ _ _ _ _
    refine retQ_sel [] (srows := []) (.inr rfl) hC rfl rfl rfl rfl rfl rfl rfl ?_
    refine ⟨?_, rfl⟩
    refine (congrArg (fun b => [bo b]) (?_ : _ = _) : [bo _] = [bo _])
    rw [take_all (by omega)] at hf; exact decide_eq_decide.2 ⟨fun h => ⟨by simp at h; omega, hf⟩, fun h => by have := h.1; simp; omega⟩


theorem pairNames_sat {nl0 : Option Bool} {pairs : List (Int × Int)} (hpairs : pairs.length < 1000000000)  : SatAt Try.prog 92 [.pv false (.sl nl0 2 (pairs.map pairP))] [] (fun res rows => ∃ nl, res = [.pv true (.sl nl 1 ((nms pairs).map intP))] ∧ rows = []) := by
  refine sat_entry_G (rs := [(2, none)]) Try.func92 rfl rfl (Nat.le_of_ble_eq_true rfl) (Nat.le_of_ble_eq_true rfl) (resTs1 trivial) fun C hC => ?_
  rw [Try.ntmps92]
  replace hC : C.nb = 0 := hC
  refine vc_seq fun K1 hK1 => ?_
  refine vc_region ?_
  refine vo_assign_pv rfl rfl ?_
  refine vo_nil ?_
  refine hK1 _ ?_
  refine vc_seq fun K2 hK2 => ?_
  refine vc_region ?_
  refine vo_assign_pv rfl rfl ?_
  refine vo_nil ?_
  refine hK2 _ ?_
  refine vc_seq fun K3 hK3 => ?_
  refine vc_seq fun K4 hK4 => ?_
  refine vc_region ?_
  refine vo_move_pv rfl rfl ?_
  refine vo_len_pv rfl rfl Try.underlying32 ?_
  refine vo_move_pv rfl rfl ?_
  refine vo_nil ?_
  refine hK4 _ ?_
  refine vc_block ?_
  refine vc_own_nil 3 E50 rfl ?_
  refine vc_stM ?_
  refine vc_loopE [6, 7] [3, 8] [0] _ _ (fun mz vs rs => ∃ (k : Nat), mz = pairs.length - k ∧ (k ≤ pairs.length) ∧ vs = [.ref 0, i64 k] ∧ rs = [Row.own 3 1 none true ((nms (pairs.take k)).map intP)]) (pairs.length) rfl rfl (le_len hC rfl) ⟨rfl, rfl, rfl⟩ rfl ⟨0, rfl, Nat.zero_le _, rfl, rfl⟩ ?_
  rintro mz vs rs - - ⟨k, rfl, hk, rfl, rfl⟩
  refine vc_stM ?_
  refine vc_seq fun K5 hK5 => ?_
  refine vc_region ?_
  refine vo_binI rfl rfl rfl rfl trivial ?_
  refine vo_nil ?_
  refine hK5 _ ?_
  refine vc_seq fun K6 hK6 => ?_
  refine vc_cond rfl (fun hc1 => ?_) (fun hc1 => ?_)
  · try simp only [decide_eq_true_eq, decide_eq_false_iff_not, beq_iff_eq, bne_iff_ne, beq_eq_false_iff_ne, bne_eq_false_iff_eq, Bool.not_eq_true, Bool.not_eq_false, Bool.not_eq_eq_eq_not, Bool.not_true, Bool.not_false, List.length_map, Int.not_lt, Int.not_le, ne_eq, Decidable.not_not] at hc1
    refine vc_skip ?_
    refine hK6 _ ?_
    refine vc_seq fun K7 hK7 => ?_
    refine vc_block ?_
    refine vc_seq fun K8 hK8 => ?_
    refine vc_region ?_
    refine vo_index_pv (.agg [(.int .i64 0), (.int .i64 0)]) rfl rfl rfl E32.und inf37 sz37 sd sd ?_
    simp only [Int.toNat_natCast, Int.toNat_zero, getD_ints, getD_intss, getD_bools, getD_bytes, PV.cells, getD_ops, getD_pairs, getD_insts]
    refine vo_load_adrS rfl rfl Try.underlying37 rfl inf37 sz37 rfl ?_
    refine vo_st (by (try simp only [St.put, PV.cells, PV.scal, List.drop_succ_cons, List.drop_zero, List.take_succ_cons, List.take_zero, List.map_cons, List.map_nil, Bool.or_true, Bool.or_false, Bool.false_or, Bool.true_or, opP, pairP, instP, heapP]); exact eq_refl _) ?_
    refine vo_alloc Z37 rfl ?_
    refine vo_stM ?_
    refine vo_store_varS rfl rfl rfl inf37 sz37 rfl ?_
    refine vo_stM ?_
    refine vo_nil ?_
    refine hK8 _ ?_
    refine vc_region ?_
    refine vo_move_ref rfl rfl ?_
    refine vo_fieldAddr_ptr rfl rfl Try.underlying37 rfl inf3 (by rw [sz3]; decide) ?_
    try simp only [Nat.zero_add]
    refine vo_load_var rfl rfl rfl Try.underlying3 rfl rfl ?_
    refine vo_buildSlice E50 rfl rfl rfl rfl rfl ?_
    refine vo_stM ?_
    refine vo_append E50 rfl (by omega) rfl rfl rfl sd sd ?_
    refine vo_stM ?_
    try simp only [app_ints, app_intss, app_bools]
    refine vo_assign_ref rfl rfl ?_
    refine vo_nil ?_
    refine hK7 _ ?_
    refine vc_region ?_
    refine vo_binI rfl rfl rfl rfl sd ?_
    refine vo_move_pv rfl rfl ?_
    refine vo_nil ?_
    change againE _ _ _ _ _ _ _ _ _ _
    refine againE_mk rfl rfl rfl rfl rfl rfl ⟨_, ?_, k + 1, rfl, ?_, rfl, (by rw [← app_nm1 _ _ (by omega)]; rfl)⟩
    · omega
    · omega
  · try simp only [decide_eq_true_eq, decide_eq_false_iff_not, beq_iff_eq, bne_iff_ne, beq_eq_false_iff_ne, bne_eq_false_iff_eq, Bool.not_eq_true, Bool.not_eq_false, Bool.not_eq_eq_eq_not, Bool.not_true, Bool.not_false, List.length_map, Int.not_lt, Int.not_le, ne_eq, Decidable.not_not] at hc1
    refine vc_exit ?_
    refine hK3 _ ?_
    refine vc_seq fun K9 hK9 => ?_
    refine vc_region ?_
    refine vo_move_ref rfl rfl ?_
    refine vo_assign_ref rfl rfl ?_
    refine vo_nil ?_
    refine hK9 _ ?_
    refine vc_expose 0 (by omega) rfl ?_
    refine vc_stM ?_
    refine vc_ret ?_
    change retQ _ _ _ _ _
    refine retQ_sel [] (srows := []) (.inr rfl) hC rfl rfl rfl rfl rfl rfl rfl ?_
    rw [show pairs.take k = pairs from take_all (by omega)]; exact ⟨_, rfl, rfl⟩


theorem haveDifferentNames_sat {nl0 : Option Bool} {pairs : List (Int × Int)} {most : Int} (hpairs : pairs.length < 1000000000)  : SatAt Try.prog 59 [.pv false (.sl nl0 2 (pairs.map pairP)), i64 most] [] (fun res rows => res = [bo (decide (pairs.length ≤ most ∧ (nms pairs).Nodup))] ∧ rows = []) := by
  refine sat_entry_G (rs := [(4, none)]) Try.func59 rfl rfl (Nat.le_of_ble_eq_true rfl) (Nat.le_of_ble_eq_true rfl) (resTs1 trivial) fun C hC => ?_
  rw [Try.ntmps59]
  replace hC : C.nb = 0 := hC
  refine vc_seq fun K1 hK1 => ?_
  refine vc_region ?_
  refine vo_assign_pv rfl rfl ?_
  refine vo_nil ?_
  refine hK1 _ ?_
  refine vc_seq fun K2 hK2 => ?_
  refine vc_region ?_
  refine vo_move_pv rfl rfl ?_
  refine vo_len_pv rfl rfl Try.underlying32 ?_
  refine vo_move_pv rfl rfl ?_
  refine vo_binI rfl rfl rfl rfl trivial ?_
  refine vo_move_pv rfl rfl ?_
  refine vo_split 9 rfl (fun hg1 => ?_) (fun hg1 => ?_)
  · try simp only [decide_eq_true_eq, decide_eq_false_iff_not, beq_iff_eq, bne_iff_ne, beq_eq_false_iff_ne, bne_eq_false_iff_eq, Bool.not_eq_true, Bool.not_eq_false, Bool.not_eq_eq_eq_not, Bool.not_true, Bool.not_false, List.length_map, Int.not_lt, Int.not_le, ne_eq, Decidable.not_not] at hg1
    refine vo_guard_on rfl rfl rfl ?_
    refine vo_move_pv rfl rfl ?_
    refine vo_guard_on rfl rfl rfl ?_
    refine vo_call0 Try.func92 rfl rfl rfl rfl (pairNames_sat hpairs) ?_
    rintro _ _ ⟨nl9, rfl, rfl⟩
    refine ⟨rfl, rfl, .inl rfl, ?_⟩
    refine vo_stM ?_
    refine vo_guard_on rfl rfl rfl ?_
    refine vo_move_pv rfl rfl ?_
    refine vo_guard_on rfl rfl rfl ?_
    refine vo_call0 Try.func76 rfl rfl rfl rfl (isList_sat (list := nms pairs) (by rw [nms_len]; omega)) ?_
    rintro _ _ ⟨rfl, rfl⟩
    refine ⟨rfl, rfl, .inl rfl, ?_⟩
    refine vo_stM ?_
    refine vo_pick_t rfl rfl ?_
    refine vo_assign_pv rfl rfl ?_
    refine vo_nil ?_
    refine hK2 _ ?_
    refine vc_ret ?_
    change retQ _ _ _ _ _
    refine retQ_sel [] (srows := []) (.inr rfl) hC rfl rfl rfl rfl rfl rfl rfl ?_
    refine ⟨?_, rfl⟩
    refine (congrArg (fun b => [bo b]) (?_ : _ = _) : [bo _] = [bo _])
    exact decide_eq_decide.2 ⟨fun h => ⟨by omega, h.2⟩, fun h => ⟨by rw [nms_len]; omega, h.2⟩⟩
  · try simp only [decide_eq_true_eq, decide_eq_false_iff_not, beq_iff_eq, bne_iff_ne, beq_eq_false_iff_ne, bne_eq_false_iff_eq, Bool.not_eq_true, Bool.not_eq_false, Bool.not_eq_eq_eq_not, Bool.not_true, Bool.not_false, List.length_map, Int.not_lt, Int.not_le, ne_eq, Decidable.not_not] at hg1
    refine vo_guard_off rfl rfl rfl rfl rfl ?_
    refine vo_guard_off rfl rfl rfl rfl rfl ?_
    refine vo_guard_off rfl rfl rfl rfl rfl ?_
    refine vo_guard_off rfl rfl rfl rfl rfl ?_
    refine vo_pick_f rfl rfl ?_
    refine vo_assign_pv rfl rfl ?_
    refine vo_nil ?_
    refine hK2 _ ?_
    refine vc_ret ?_
    change retQ _ _ _ _ _
    refine retQ_sel [] (srows := []) (.inr rfl) hC rfl rfl rfl rfl rfl rfl rfl ?_
    refine ⟨?_, rfl⟩
    refine (congrArg (fun b => [bo b]) (?_ : _ = _) : [bo _] = [bo _])
    exact bF fun h => by have := h.1; omega


theorem IndexP_sat {nl0 : Option Bool} {s : List (Int × Int)} {v : Int × Int} (hs : s.length < 1000000000)  : SatAt Try.prog 93 [.pv false (.sl nl0 2 (s.map pairP)), .pv false (pairP v)] [] (fun res rows => ∃ x : Int, (0 ≤ x ↔ v ∈ s) ∧ res = [i64 x] ∧ rows = []) := by
  refine sat_entry_G (rs := [(4, none)]) Try.func93 rfl rfl (Nat.le_of_ble_eq_true rfl) (Nat.le_of_ble_eq_true rfl) (resTs1 trivial) fun C hC => ?_
  rw [Try.ntmps93]
  replace hC : C.nb = 0 := hC
  refine vc_seq fun K1 hK1 => ?_
  refine vc_region ?_
  refine vo_box rfl rfl ?_
  refine vo_stM ?_
  refine vo_assign_pv rfl rfl ?_
  refine vo_nil ?_
  refine hK1 _ ?_
  refine vc_seq fun K2 hK2 => ?_
  refine vc_seq fun K3 hK3 => ?_
  refine vc_region ?_
  refine vo_move_pv rfl rfl ?_
  refine vo_len_pv rfl rfl Try.underlying32 ?_
  refine vo_move_pv rfl rfl ?_
  refine vo_nil ?_
  refine hK3 _ ?_
  refine vc_block ?_
  refine vc_stM ?_
  refine vc_loopE [0, 3, 7] [8] [] _ _ (fun mz vs rs => ∃ (k : Nat), mz = s.length - k ∧ (k ≤ s.length) ∧ (v ∉ s.take k) ∧ vs = [i64 k] ∧ rs = []) (s.length) rfl rfl (le_len hC rfl) ⟨rfl, rfl, rfl⟩ rfl ⟨0, rfl, Nat.zero_le _, (by simp), rfl, rfl⟩ ?_
  rintro mz vs rs - - ⟨k, rfl, hk, hf, rfl, rfl⟩
  refine vc_stM ?_
  refine vc_seq fun K4 hK4 => ?_
  refine vc_region ?_
  refine vo_binI rfl rfl rfl rfl trivial ?_
  refine vo_nil ?_
  refine hK4 _ ?_
  refine vc_seq fun K5 hK5 => ?_
  refine vc_cond rfl (fun hc1 => ?_) (fun hc1 => ?_)
  · try simp only [decide_eq_true_eq, decide_eq_false_iff_not, beq_iff_eq, bne_iff_ne, beq_eq_false_iff_ne, bne_eq_false_iff_eq, Bool.not_eq_true, Bool.not_eq_false, Bool.not_eq_eq_eq_not, Bool.not_true, Bool.not_false, List.length_map, Int.not_lt, Int.not_le, ne_eq, Decidable.not_not] at hc1
    refine vc_skip ?_
    refine hK5 _ ?_
    refine vc_seq fun K6 hK6 => ?_
    refine vc_block ?_
    refine vc_seq fun K7 hK7 => ?_
    refine vc_region ?_
    refine vo_move_pv rfl rfl ?_
    refine vo_assign_pv rfl rfl ?_
    refine vo_nil ?_
    refine hK7 _ ?_
    refine vc_seq fun K8 hK8 => ?_
    refine vc_draw (by kernel_rfl) ?_
    change VD _ _ _ 6 _ _ _
    refine vd_light 0 rfl rfl rfl (by kernel_rfl) (by kernel_rfl) (by kernel_rfl) (wnt_none rfl) (lt_load_varS rfl rfl Try.underlying37 rfl inf37 sz37 rfl rfl) ?_
    refine vd_light 1 rfl rfl rfl (by kernel_rfl) (by kernel_rfl) (by kernel_rfl) (wnt_none rfl) (lt_move_pv rfl) ?_
    refine vd_light 2 rfl rfl rfl (by kernel_rfl) (by kernel_rfl) (by kernel_rfl) (wnt_none rfl) (lt_move_pv rfl) ?_
    refine vd_light 3 rfl rfl rfl (by kernel_rfl) (by kernel_rfl) (by kernel_rfl) (wnt_none rfl) (lt_index_pv (.agg [(.int .i64 0), (.int .i64 0)]) rfl rfl E32.und inf37 sz37 sd sd) ?_
    simp only [Int.toNat_natCast, Int.toNat_zero, getD_ints, getD_intss, getD_bools, getD_bytes, PV.cells, getD_ops, getD_pairs, getD_insts]
    refine vd_light 4 rfl rfl rfl (by kernel_rfl) (by kernel_rfl) (by kernel_rfl) (wnt_none rfl) (lt_load_adrS rfl Try.underlying37 rfl inf37 sz37 rfl) ?_
    refine vd_st (by (try simp only [St.put, PV.cells, PV.scal, List.drop_succ_cons, List.drop_zero, List.take_succ_cons, List.take_zero, List.map_cons, List.map_nil, Bool.or_true, Bool.or_false, Bool.false_or, Bool.true_or, opP, pairP, instP, heapP]); exact eq_refl _) ?_
    refine vd_light 5 rfl rfl rfl (by kernel_rfl) (by kernel_rfl) (by kernel_rfl) (wnt_none rfl) (lt_eqS2 Q37 rfl rfl) ?_
    refine vd_nil (by kernel_rfl) ?_
    refine hK8 _ ?_
    refine vc_cond rfl (fun hc2 => ?_) (fun hc2 => ?_)
    · try simp only [decide_eq_true_eq, decide_eq_false_iff_not, beq_iff_eq, bne_iff_ne, beq_eq_false_iff_ne, bne_eq_false_iff_eq, Bool.not_eq_true, Bool.not_eq_false, Bool.not_eq_eq_eq_not, Bool.not_true, Bool.not_false, List.length_map, Int.not_lt, Int.not_le, ne_eq, Decidable.not_not] at hc2
      refine vc_seq fun K9 hK9 => ?_
      refine vc_region ?_
      refine vo_move_pv rfl rfl ?_
      refine vo_assign_pv rfl rfl ?_
      refine vo_nil ?_
      refine hK9 _ ?_
      refine vc_ret ?_
      change retQ _ _ _ _ _
      refine retQ_sel [] (srows := []) (.inr rfl) hC rfl rfl rfl rfl rfl rfl rfl ?_
      have hv : v = s.getD k (0, 0) := Prod.ext_iff.2 (by first | exact hc2 | exact ⟨hc2.1, hc2.2⟩ | (rw [Bool.and_eq_true, beq_iff_eq, beq_iff_eq] at hc2; exact hc2) | exact ⟨hc2.1.symm, hc2.2.symm⟩)
      exact ⟨_, ⟨fun _ => by rw [hv]; exact getD_mem (show k < s.length by omega) (0, 0), fun _ => by omega⟩, rfl, rfl⟩
    · try simp only [decide_eq_true_eq, decide_eq_false_iff_not, beq_iff_eq, bne_iff_ne, beq_eq_false_iff_ne, bne_eq_false_iff_eq, Bool.not_eq_true, Bool.not_eq_false, Bool.not_eq_eq_eq_not, Bool.not_true, Bool.not_false, List.length_map, Int.not_lt, Int.not_le, ne_eq, Decidable.not_not] at hc2
      refine vc_skip ?_
      refine hK6 _ ?_
      refine vc_region ?_
      refine vo_binI rfl rfl rfl rfl sd ?_
      refine vo_move_pv rfl rfl ?_
      refine vo_nil ?_
      change againE _ _ _ _ _ _ _ _ _ _
      refine againE_mk rfl rfl rfl rfl rfl rfl ⟨_, ?_, k + 1, rfl, ?_, ?_, rfl, rfl⟩
      · omega
      · omega
      · intro hm
        rw [List.take_add_one, List.getElem?_eq_getElem (by omega)] at hm
        rcases List.mem_append.1 hm with hm | hm
        · exact hf hm
        · have e : v = s.getD k (0, 0) := by simp only [Option.toList_some, List.mem_singleton] at hm; rw [hm, List.getD, List.getElem?_eq_getElem (by omega)]; rfl
          rw [e] at hc2; first | exact hc2 ⟨rfl, rfl⟩ | simp at hc2
  · try simp only [decide_eq_true_eq, decide_eq_false_iff_not, beq_iff_eq, bne_iff_ne, beq_eq_false_iff_ne, bne_eq_false_iff_eq, Bool.not_eq_true, Bool.not_eq_false, Bool.not_eq_eq_eq_not, Bool.not_true, Bool.not_false, List.length_map, Int.not_lt, Int.not_le, ne_eq, Decidable.not_not] at hc1
    refine vc_exit ?_
    refine hK2 _ ?_
    refine vc_seq fun K10 hK10 => ?_
    refine vc_region ?_
    refine vo_assign_pv rfl rfl ?_
    refine vo_nil ?_
    refine hK10 _ ?_
    refine vc_ret ?_
    change retQ _ _ _ _ _
    refine retQ_sel [] (srows := []) (.inr rfl) hC rfl rfl rfl rfl rfl rfl rfl ?_
    rw [take_all (by omega)] at hf
    exact ⟨_, ⟨fun h => by omega, fun h => absurd h hf⟩, rfl, rfl⟩


theorem ContainsP_sat {nl0 : Option Bool} {s : List (Int × Int)} {v : Int × Int} (hs : s.length < 1000000000)  : SatAt Try.prog 60 [.pv false (.sl nl0 2 (s.map pairP)), .pv false (pairP v)] [] (fun res rows => res = [bo (decide (v ∈ s))] ∧ rows = []) := by
  refine sat_entry_G (rs := [(4, none)]) Try.func60 rfl rfl (Nat.le_of_ble_eq_true rfl) (Nat.le_of_ble_eq_true rfl) (resTs1 trivial) fun C hC => ?_
  rw [Try.ntmps60]
  replace hC : C.nb = 0 := hC
  refine vc_seq fun K1 hK1 => ?_
  refine vc_region ?_
  refine vo_box rfl rfl ?_
  refine vo_stM ?_
  refine vo_assign_pv rfl rfl ?_
  refine vo_nil ?_
  refine hK1 _ ?_
  refine vc_seq fun K2 hK2 => ?_
  refine vc_region ?_
  refine vo_move_pv rfl rfl ?_
  refine vo_load_varS rfl rfl rfl Try.underlying37 rfl inf37 sz37 rfl rfl ?_
  refine vo_call0 Try.func93 rfl rfl rfl rfl (IndexP_sat hs) ?_
  rintro _ _ ⟨x, hx, rfl, rfl⟩
  refine ⟨rfl, rfl, .inl rfl, ?_⟩
  refine vo_stM ?_
  refine vo_binI rfl rfl rfl rfl trivial ?_
  refine vo_assign_pv rfl rfl ?_
  refine vo_nil ?_
  refine hK2 _ ?_
  refine vc_ret ?_
  change retQ _ _ _ _ _
  refine retQ_sel [] (srows := []) (.inr rfl) hC rfl rfl rfl rfl rfl rfl rfl ?_
  refine ⟨?_, rfl⟩
  refine (congrArg (fun b => [bo b]) (?_ : _ = _) : [bo _] = [bo _])
  exact decide_eq_decide.2 hx

end Go.Vl


namespace Go.Vl
set_option linter.unusedVariables false
set_option linter.unusedSimpArgs false
open Go.Proofs

theorem spairs_bad {a b : List (Int × Int)} {k : Nat} (hk : k < a.length) (hz : findM (a.getD k (0, 0)).1 (nms b) 0 < 0) : ¬ SPairs a b := fun h =>
  (findM_not _ _ 0 (by omega)).1 hz (pair_mem_nms (h.2.2.2 _ (getD_mem hk (0, 0))))
theorem spairs_bad2 {a b : List (Int × Int)} {k : Nat} (hk : k < a.length) (hb : (nms b).Nodup) (hz : 0 ≤ findM (a.getD k (0, 0)).1 (nms b) 0)
    (hv : ¬ (b.getD (findM (a.getD k (0, 0)).1 (nms b) 0).toNat (0, 0)).2 = (a.getD k (0, 0)).2) : ¬ SPairs a b := fun h => by
  obtain ⟨z, e⟩ : ∃ z : Nat, findM (a.getD k (0, 0)).1 (nms b) 0 = z := ⟨_, (Int.toNat_of_nonneg hz).symm⟩
  have hp := pair_at e
  rw [e, Int.toNat_natCast] at hv
  exact hv (congrArg Prod.snd (pair_uniq hb (getD_mem hp.1 (0, 0)) (h.2.2.2 _ (getD_mem hk (0, 0))) hp.2))
theorem spairs_step {a b : List (Int × Int)} {k : Nat} (hk : k < a.length) (hz : 0 ≤ findM (a.getD k (0, 0)).1 (nms b) 0)
    (hv : (b.getD (findM (a.getD k (0, 0)).1 (nms b) 0).toNat (0, 0)).2 = (a.getD k (0, 0)).2) (hf : ∀ p ∈ a.take k, p ∈ b) : ∀ p ∈ a.take (k+1), p ∈ b := by
  obtain ⟨z, e⟩ : ∃ z : Nat, findM (a.getD k (0, 0)).1 (nms b) 0 = z := ⟨_, (Int.toNat_of_nonneg hz).symm⟩
  have hp := pair_at e
  rw [e, Int.toNat_natCast] at hv
  refine (all_take_succ hk (0, 0)).2 ⟨hf, ?_⟩
  have : a.getD k (0, 0) = b.getD z (0, 0) := Prod.ext hp.2.symm hv.symm
  rw [this]; exact getD_mem hp.1 (0, 0)
theorem findM_lt {n : Int} {b : List (Int × Int)} (hz : 0 ≤ findM n (nms b) 0) : findM n (nms b) 0 < b.length := by
  obtain ⟨z, e⟩ : ∃ z : Nat, findM n (nms b) 0 = z := ⟨_, (Int.toNat_of_nonneg hz).symm⟩
  rw [e]; have := (pair_at e).1; omega

theorem implSamePairs_sat {nl0 : Option Bool} {a : List (Int × Int)} {nl1 : Option Bool} {b : List (Int × Int)} (ha : a.length < 1000000000) (hb : b.length < 1000000000)  : SatAt Try.prog 22 [.pv false (.sl nl0 2 (a.map pairP)), .pv false (.sl nl1 2 (b.map pairP))] [] (fun res rows => res = [bo (decide (SPairs a b))] ∧ rows = []) := by
  refine sat_entry_G (rs := [(4, none)]) Try.func22 rfl rfl (Nat.le_of_ble_eq_true rfl) (Nat.le_of_ble_eq_true rfl) (resTs1 trivial) fun C hC => ?_
  rw [Try.ntmps22]
  replace hC : C.nb = 0 := hC
  refine vc_seq fun K1 hK1 => ?_
  refine vc_region ?_
  refine vo_assign_pv rfl rfl ?_
  refine vo_nil ?_
  refine hK1 _ ?_
  refine vc_seq fun K2 hK2 => ?_
  refine vc_seq fun K3 hK3 => ?_
  refine vc_region ?_
  refine vo_move_pv rfl rfl ?_
  refine vo_call0 Try.func59 rfl rfl rfl rfl (haveDifferentNames_sat ha) ?_
  rintro _ _ ⟨rfl, rfl⟩
  refine ⟨rfl, rfl, .inl rfl, ?_⟩
  refine vo_stM ?_
  refine vo_not rfl rfl ?_
  refine vo_move_pv rfl rfl ?_
  refine vo_split 10 rfl (fun hg1 => ?_) (fun hg1 => ?_)
  · try simp only [decide_eq_true_eq, decide_eq_false_iff_not, beq_iff_eq, bne_iff_ne, beq_eq_false_iff_ne, bne_eq_false_iff_eq, Bool.not_eq_true, Bool.not_eq_false, Bool.not_eq_eq_eq_not, Bool.not_true, Bool.not_false, List.length_map, Int.not_lt, Int.not_le, ne_eq, Decidable.not_not] at hg1
    refine vo_guard_off rfl rfl rfl rfl rfl ?_
    refine vo_guard_off rfl rfl rfl rfl rfl ?_
    refine vo_guard_off rfl rfl rfl rfl rfl ?_
    refine vo_guard_off rfl rfl rfl rfl rfl ?_
    refine vo_guard_off rfl rfl rfl rfl rfl ?_
    refine vo_pick_t rfl rfl ?_
    refine vo_nil ?_
    refine hK3 _ ?_
    refine vc_cond_t rfl ?_
    refine vc_seq fun K4 hK4 => ?_
    refine vc_region ?_
    refine vo_assign_pv rfl rfl ?_
    refine vo_nil ?_
    refine hK4 _ ?_
    refine vc_ret ?_
    change retQ _ _ _ _ _
    refine retQ_sel [] (srows := []) (.inr rfl) hC rfl rfl rfl rfl rfl rfl rfl ?_
    refine ⟨?_, rfl⟩
    refine (congrArg (fun b => [bo b]) (?_ : _ = _) : [bo _] = [bo _])
    skip
    first
      | exact bF fun h => absurd (⟨by have := h.1; omega, h.2.1⟩ : (a.length : Int) ≤ 40 ∧ (nms a).Nodup) ‹¬ ((a.length : Int) ≤ 40 ∧ (nms a).Nodup)›
      | exact bF fun h => absurd (⟨h.1, h.2.1⟩ : a.length ≤ 40 ∧ (nms a).Nodup) ‹¬ (a.length ≤ 40 ∧ (nms a).Nodup)›
      | exact bF fun h => absurd (⟨by have := h.1; have := h.2.2.1; omega, nodup_of_sub h.2.1 (by have := h.2.2.1; omega) h.2.2.2⟩ : b.length ≤ 40 ∧ (nms b).Nodup) ‹¬ (b.length ≤ 40 ∧ (nms b).Nodup)›
      | exact bF fun h => by have := h.2.2.1; omega
      | exact bF fun h => ‹a.getD k (0, 0) ∉ b› (h.2.2.2 _ (getD_mem (show k < a.length by omega) (0, 0)))
      | exact bF (spairs_bad (k := k) (by omega) (by omega))
      | exact bF (spairs_bad2 (k := k) (by omega) (by simp_all) (by omega) (by assumption))
      | (rw [take_all (by omega)] at hf; exact bT ⟨by omega, by simp_all, by omega, hf⟩)
  · try simp only [decide_eq_true_eq, decide_eq_false_iff_not, beq_iff_eq, bne_iff_ne, beq_eq_false_iff_ne, bne_eq_false_iff_eq, Bool.not_eq_true, Bool.not_eq_false, Bool.not_eq_eq_eq_not, Bool.not_true, Bool.not_false, List.length_map, Int.not_lt, Int.not_le, ne_eq, Decidable.not_not] at hg1
    refine vo_guard_on rfl rfl rfl ?_
    refine vo_move_pv rfl rfl ?_
    refine vo_guard_on rfl rfl rfl ?_
    refine vo_len_pv rfl rfl Try.underlying32 ?_
    refine vo_guard_on rfl rfl rfl ?_
    refine vo_move_pv rfl rfl ?_
    refine vo_guard_on rfl rfl rfl ?_
    refine vo_len_pv rfl rfl Try.underlying32 ?_
    refine vo_guard_on rfl rfl rfl ?_
    refine vo_binI rfl rfl rfl rfl trivial ?_
    refine vo_pick_f rfl rfl ?_
    refine vo_nil ?_
    refine hK3 _ ?_
    refine vc_cond rfl (fun hc2 => ?_) (fun hc2 => ?_)
    · try simp only [decide_eq_true_eq, decide_eq_false_iff_not, beq_iff_eq, bne_iff_ne, beq_eq_false_iff_ne, bne_eq_false_iff_eq, Bool.not_eq_true, Bool.not_eq_false, Bool.not_eq_eq_eq_not, Bool.not_true, Bool.not_false, List.length_map, Int.not_lt, Int.not_le, ne_eq, Decidable.not_not] at hc2
      refine vc_seq fun K5 hK5 => ?_
      refine vc_region ?_
      refine vo_assign_pv rfl rfl ?_
      refine vo_nil ?_
      refine hK5 _ ?_
      refine vc_ret ?_
      change retQ _ _ _ _ _
      refine retQ_sel [] (srows := []) (.inr rfl) hC rfl rfl rfl rfl rfl rfl rfl ?_
      refine ⟨?_, rfl⟩
      refine (congrArg (fun b => [bo b]) (?_ : _ = _) : [bo _] = [bo _])
      skip
      first
        | exact bF fun h => absurd (⟨by have := h.1; omega, h.2.1⟩ : (a.length : Int) ≤ 40 ∧ (nms a).Nodup) ‹¬ ((a.length : Int) ≤ 40 ∧ (nms a).Nodup)›
        | exact bF fun h => absurd (⟨h.1, h.2.1⟩ : a.length ≤ 40 ∧ (nms a).Nodup) ‹¬ (a.length ≤ 40 ∧ (nms a).Nodup)›
        | exact bF fun h => absurd (⟨by have := h.1; have := h.2.2.1; omega, nodup_of_sub h.2.1 (by have := h.2.2.1; omega) h.2.2.2⟩ : b.length ≤ 40 ∧ (nms b).Nodup) ‹¬ (b.length ≤ 40 ∧ (nms b).Nodup)›
        | exact bF fun h => by have := h.2.2.1; omega
        | exact bF fun h => ‹a.getD k (0, 0) ∉ b› (h.2.2.2 _ (getD_mem (show k < a.length by omega) (0, 0)))
        | exact bF (spairs_bad (k := k) (by omega) (by omega))
        | exact bF (spairs_bad2 (k := k) (by omega) (by simp_all) (by omega) (by assumption))
        | (rw [take_all (by omega)] at hf; exact bT ⟨by omega, by simp_all, by omega, hf⟩)
    · try simp only [decide_eq_true_eq, decide_eq_false_iff_not, beq_iff_eq, bne_iff_ne, beq_eq_false_iff_ne, bne_eq_false_iff_eq, Bool.not_eq_true, Bool.not_eq_false, Bool.not_eq_eq_eq_not, Bool.not_true, Bool.not_false, List.length_map, Int.not_lt, Int.not_le, ne_eq, Decidable.not_not] at hc2
      refine vc_skip ?_
      refine hK2 _ ?_
      refine vc_seq fun K6 hK6 => ?_
      refine vc_seq fun K7 hK7 => ?_
      refine vc_region ?_
      refine vo_move_pv rfl rfl ?_
      refine vo_len_pv rfl rfl Try.underlying32 ?_
      refine vo_move_pv rfl rfl ?_
      refine vo_nil ?_
      refine hK7 _ ?_
      refine vc_block ?_
      refine vc_stM ?_
      refine vc_loopE [1, 17, 18] [19] [] _ _ (fun mz vs rs => ∃ (k : Nat), mz = a.length - k ∧ (k ≤ a.length) ∧ (∀ p ∈ a.take k, p ∈ b) ∧ vs = [i64 k] ∧ rs = []) (a.length) rfl rfl (le_len hC rfl) ⟨rfl, rfl, rfl⟩ rfl ⟨0, rfl, Nat.zero_le _, (by simp), rfl, rfl⟩ ?_
      rintro mz vs rs - - ⟨k, rfl, hk, hf, rfl, rfl⟩
      refine vc_stM ?_
      refine vc_seq fun K8 hK8 => ?_
      refine vc_region ?_
      refine vo_binI rfl rfl rfl rfl trivial ?_
      refine vo_nil ?_
      refine hK8 _ ?_
      refine vc_seq fun K9 hK9 => ?_
      refine vc_cond rfl (fun hc3 => ?_) (fun hc3 => ?_)
      · try simp only [decide_eq_true_eq, decide_eq_false_iff_not, beq_iff_eq, bne_iff_ne, beq_eq_false_iff_ne, bne_eq_false_iff_eq, Bool.not_eq_true, Bool.not_eq_false, Bool.not_eq_eq_eq_not, Bool.not_true, Bool.not_false, List.length_map, Int.not_lt, Int.not_le, ne_eq, Decidable.not_not] at hc3
        refine vc_skip ?_
        refine hK9 _ ?_
        refine vc_seq fun K10 hK10 => ?_
        refine vc_block ?_
        refine vc_seq fun K11 hK11 => ?_
        refine vc_region ?_
        refine vo_index_pv (.agg [(.int .i64 0), (.int .i64 0)]) rfl rfl rfl E32.und inf37 sz37 sd sd ?_
        simp only [Int.toNat_natCast, Int.toNat_zero, getD_ints, getD_intss, getD_bools, getD_bytes, PV.cells, getD_ops, getD_pairs, getD_insts]
        refine vo_load_adrS rfl rfl Try.underlying37 rfl inf37 sz37 rfl ?_
        refine vo_st (by (try simp only [St.put, PV.cells, PV.scal, List.drop_succ_cons, List.drop_zero, List.take_succ_cons, List.take_zero, List.map_cons, List.map_nil, Bool.or_true, Bool.or_false, Bool.false_or, Bool.true_or, opP, pairP, instP, heapP]); exact eq_refl _) ?_
        refine vo_alloc Z37 rfl ?_
        refine vo_stM ?_
        refine vo_store_varS rfl rfl rfl inf37 sz37 rfl ?_
        refine vo_stM ?_
        refine vo_nil ?_
        refine hK11 _ ?_
        refine vc_seq fun K12 hK12 => ?_
        refine vc_region ?_
        refine vo_move_pv rfl rfl ?_
        refine vo_load_varS rfl rfl rfl Try.underlying37 rfl inf37 sz37 rfl rfl ?_
        refine vo_call0 Try.func60 rfl rfl rfl rfl (ContainsP_sat hb) ?_
        rintro _ _ ⟨rfl, rfl⟩
        refine ⟨rfl, rfl, .inl rfl, ?_⟩
        refine vo_stM ?_
        refine vo_not rfl rfl ?_
        refine vo_nil ?_
        refine hK12 _ ?_
        refine vc_cond rfl (fun hc4 => ?_) (fun hc4 => ?_)
        · try simp only [decide_eq_true_eq, decide_eq_false_iff_not, beq_iff_eq, bne_iff_ne, beq_eq_false_iff_ne, bne_eq_false_iff_eq, Bool.not_eq_true, Bool.not_eq_false, Bool.not_eq_eq_eq_not, Bool.not_true, Bool.not_false, List.length_map, Int.not_lt, Int.not_le, ne_eq, Decidable.not_not] at hc4
          refine vc_seq fun K13 hK13 => ?_
          refine vc_region ?_
          refine vo_assign_pv rfl rfl ?_
          refine vo_nil ?_
          refine hK13 _ ?_
          refine vc_ret ?_
          change retQ _ _ _ _ _
          refine retQ_sel [] (srows := []) (.inr rfl) hC rfl rfl rfl rfl rfl rfl rfl ?_
          refine ⟨?_, rfl⟩
          refine (congrArg (fun b => [bo b]) (?_ : _ = _) : [bo _] = [bo _])
          skip
          first
            | exact bF fun h => absurd (⟨by have := h.1; omega, h.2.1⟩ : (a.length : Int) ≤ 40 ∧ (nms a).Nodup) ‹¬ ((a.length : Int) ≤ 40 ∧ (nms a).Nodup)›
            | exact bF fun h => absurd (⟨h.1, h.2.1⟩ : a.length ≤ 40 ∧ (nms a).Nodup) ‹¬ (a.length ≤ 40 ∧ (nms a).Nodup)›
            | exact bF fun h => absurd (⟨by have := h.1; have := h.2.2.1; omega, nodup_of_sub h.2.1 (by have := h.2.2.1; omega) h.2.2.2⟩ : b.length ≤ 40 ∧ (nms b).Nodup) ‹¬ (b.length ≤ 40 ∧ (nms b).Nodup)›
            | exact bF fun h => by have := h.2.2.1; omega
            | exact bF fun h => ‹a.getD k (0, 0) ∉ b› (h.2.2.2 _ (getD_mem (show k < a.length by omega) (0, 0)))
            | exact bF (spairs_bad (k := k) (by omega) (by omega))
            | exact bF (spairs_bad2 (k := k) (by omega) (by simp_all) (by omega) (by assumption))
            | (rw [take_all (by omega)] at hf; exact bT ⟨by omega, by simp_all, by omega, hf⟩)
        · try simp only [decide_eq_true_eq, decide_eq_false_iff_not, beq_iff_eq, bne_iff_ne, beq_eq_false_iff_ne, bne_eq_false_iff_eq, Bool.not_eq_true, Bool.not_eq_false, Bool.not_eq_eq_eq_not, Bool.not_true, Bool.not_false, List.length_map, Int.not_lt, Int.not_le, ne_eq, Decidable.not_not] at hc4
          refine vc_skip ?_
          refine hK10 _ ?_
          refine vc_region ?_
          refine vo_binI rfl rfl rfl rfl sd ?_
          refine vo_move_pv rfl rfl ?_
          refine vo_nil ?_
          change againE _ _ _ _ _ _ _ _ _ _
          refine againE_mk rfl rfl rfl rfl rfl rfl ⟨_, ?_, k + 1, rfl, ?_, ?_, rfl, rfl⟩
          · omega
          · omega
          · exact (all_take_succ (by omega) (0, 0)).2 ⟨hf, hc4⟩
      · try simp only [decide_eq_true_eq, decide_eq_false_iff_not, beq_iff_eq, bne_iff_ne, beq_eq_false_iff_ne, bne_eq_false_iff_eq, Bool.not_eq_true, Bool.not_eq_false, Bool.not_eq_eq_eq_not, Bool.not_true, Bool.not_false, List.length_map, Int.not_lt, Int.not_le, ne_eq, Decidable.not_not] at hc3
        refine vc_exit ?_
        refine hK6 _ ?_
        refine vc_seq fun K14 hK14 => ?_
        refine vc_region ?_
        refine vo_assign_pv rfl rfl ?_
        refine vo_nil ?_
        refine hK14 _ ?_
        refine vc_ret ?_
        change retQ _ _ _ _ _
        refine retQ_sel [] (srows := []) (.inr rfl) hC rfl rfl rfl rfl rfl rfl rfl ?_
        refine ⟨?_, rfl⟩
        refine (congrArg (fun b => [bo b]) (?_ : _ = _) : [bo _] = [bo _])
        skip
        first
          | exact bF fun h => absurd (⟨by have := h.1; omega, h.2.1⟩ : (a.length : Int) ≤ 40 ∧ (nms a).Nodup) ‹¬ ((a.length : Int) ≤ 40 ∧ (nms a).Nodup)›
          | exact bF fun h => absurd (⟨h.1, h.2.1⟩ : a.length ≤ 40 ∧ (nms a).Nodup) ‹¬ (a.length ≤ 40 ∧ (nms a).Nodup)›
          | exact bF fun h => absurd (⟨by have := h.1; have := h.2.2.1; omega, nodup_of_sub h.2.1 (by have := h.2.2.1; omega) h.2.2.2⟩ : b.length ≤ 40 ∧ (nms b).Nodup) ‹¬ (b.length ≤ 40 ∧ (nms b).Nodup)›
          | exact bF fun h => by have := h.2.2.1; omega
          | exact bF fun h => ‹a.getD k (0, 0) ∉ b› (h.2.2.2 _ (getD_mem (show k < a.length by omega) (0, 0)))
          | exact bF (spairs_bad (k := k) (by omega) (by omega))
          | exact bF (spairs_bad2 (k := k) (by omega) (by simp_all) (by omega) (by assumption))
          | (rw [take_all (by omega)] at hf; exact bT ⟨by omega, by simp_all, by omega, hf⟩)


theorem specSamePairs_sat {nl0 : Option Bool} {a : List (Int × Int)} {nl1 : Option Bool} {b : List (Int × Int)} (ha : a.length < 1000000000) (hb : b.length < 1000000000)  : SatAt Try.prog 23 [.pv false (.sl nl0 2 (a.map pairP)), .pv false (.sl nl1 2 (b.map pairP))] [] (fun res rows => res = [bo (decide (SPairs a b))] ∧ rows = []) := by
  refine sat_entry_G (rs := [(4, none)]) Try.func23 rfl rfl (Nat.le_of_ble_eq_true rfl) (Nat.le_of_ble_eq_true rfl) (resTs1 trivial) fun C hC => ?_
  rw [Try.ntmps23]
  replace hC : C.nb = 0 := hC
  refine vc_seq fun K1 hK1 => ?_
  refine vc_region ?_
  refine vo_assign_pv rfl rfl ?_
  refine vo_nil ?_
  refine hK1 _ ?_
  refine vc_seq fun K2 hK2 => ?_
  refine vc_seq fun K3 hK3 => ?_
  refine vc_region ?_
  refine vo_move_pv rfl rfl ?_
  refine vo_call0 Try.func61 rfl rfl rfl rfl (goodPairs_sat ha) ?_
  rintro _ _ ⟨rfl, rfl⟩
  refine ⟨rfl, rfl, .inl rfl, ?_⟩
  refine vo_stM ?_
  refine vo_not rfl rfl ?_
  refine vo_move_pv rfl rfl ?_
  refine vo_split 10 rfl (fun hg1 => ?_) (fun hg1 => ?_)
  · try simp only [decide_eq_true_eq, decide_eq_false_iff_not, beq_iff_eq, bne_iff_ne, beq_eq_false_iff_ne, bne_eq_false_iff_eq, Bool.not_eq_true, Bool.not_eq_false, Bool.not_eq_eq_eq_not, Bool.not_true, Bool.not_false, List.length_map, Int.not_lt, Int.not_le, ne_eq, Decidable.not_not] at hg1
    refine vo_guard_off rfl rfl rfl rfl rfl ?_
    refine vo_guard_off rfl rfl rfl rfl rfl ?_
    refine vo_guard_off rfl rfl rfl rfl rfl ?_
    refine vo_pick_t rfl rfl ?_
    refine vo_move_pv rfl rfl ?_
    refine vo_guard_off rfl rfl rfl rfl rfl ?_
    refine vo_guard_off rfl rfl rfl rfl rfl ?_
    refine vo_guard_off rfl rfl rfl rfl rfl ?_
    refine vo_guard_off rfl rfl rfl rfl rfl ?_
    refine vo_guard_off rfl rfl rfl rfl rfl ?_
    refine vo_pick_t rfl rfl ?_
    refine vo_nil ?_
    refine hK3 _ ?_
    refine vc_cond_t rfl ?_
    refine vc_seq fun K4 hK4 => ?_
    refine vc_region ?_
    refine vo_assign_pv rfl rfl ?_
    refine vo_nil ?_
    refine hK4 _ ?_
    refine vc_ret ?_
    change retQ _ _ _ _ _
    refine retQ_sel [] (srows := []) (.inr rfl) hC rfl rfl rfl rfl rfl rfl rfl ?_
    refine ⟨?_, rfl⟩
    refine (congrArg (fun b => [bo b]) (?_ : _ = _) : [bo _] = [bo _])
    skip
    first
      | exact bF fun h => absurd (⟨by have := h.1; omega, h.2.1⟩ : (a.length : Int) ≤ 40 ∧ (nms a).Nodup) ‹¬ ((a.length : Int) ≤ 40 ∧ (nms a).Nodup)›
      | exact bF fun h => absurd (⟨h.1, h.2.1⟩ : a.length ≤ 40 ∧ (nms a).Nodup) ‹¬ (a.length ≤ 40 ∧ (nms a).Nodup)›
      | exact bF fun h => absurd (⟨by have := h.1; have := h.2.2.1; omega, nodup_of_sub h.2.1 (by have := h.2.2.1; omega) h.2.2.2⟩ : b.length ≤ 40 ∧ (nms b).Nodup) ‹¬ (b.length ≤ 40 ∧ (nms b).Nodup)›
      | exact bF fun h => by have := h.2.2.1; omega
      | exact bF fun h => ‹a.getD k (0, 0) ∉ b› (h.2.2.2 _ (getD_mem (show k < a.length by omega) (0, 0)))
      | exact bF (spairs_bad (k := k) (by omega) (by omega))
      | exact bF (spairs_bad2 (k := k) (by omega) (by simp_all) (by omega) (by assumption))
      | (rw [take_all (by omega)] at hf; exact bT ⟨by omega, by simp_all, by omega, hf⟩)
  · try simp only [decide_eq_true_eq, decide_eq_false_iff_not, beq_iff_eq, bne_iff_ne, beq_eq_false_iff_ne, bne_eq_false_iff_eq, Bool.not_eq_true, Bool.not_eq_false, Bool.not_eq_eq_eq_not, Bool.not_true, Bool.not_false, List.length_map, Int.not_lt, Int.not_le, ne_eq, Decidable.not_not] at hg1
    refine vo_guard_on rfl rfl rfl ?_
    refine vo_move_pv rfl rfl ?_
    refine vo_guard_on rfl rfl rfl ?_
    refine vo_call0 Try.func61 rfl rfl rfl rfl (goodPairs_sat hb) ?_
    rintro _ _ ⟨rfl, rfl⟩
    refine ⟨rfl, rfl, .inl rfl, ?_⟩
    refine vo_stM ?_
    refine vo_guard_on rfl rfl rfl ?_
    refine vo_not rfl rfl ?_
    refine vo_pick_f rfl rfl ?_
    refine vo_move_pv rfl rfl ?_
    refine vo_split 15 rfl (fun hg2 => ?_) (fun hg2 => ?_)
    · try simp only [decide_eq_true_eq, decide_eq_false_iff_not, beq_iff_eq, bne_iff_ne, beq_eq_false_iff_ne, bne_eq_false_iff_eq, Bool.not_eq_true, Bool.not_eq_false, Bool.not_eq_eq_eq_not, Bool.not_true, Bool.not_false, List.length_map, Int.not_lt, Int.not_le, ne_eq, Decidable.not_not] at hg2
      refine vo_guard_off rfl rfl rfl rfl rfl ?_
      refine vo_guard_off rfl rfl rfl rfl rfl ?_
      refine vo_guard_off rfl rfl rfl rfl rfl ?_
      refine vo_guard_off rfl rfl rfl rfl rfl ?_
      refine vo_guard_off rfl rfl rfl rfl rfl ?_
      refine vo_pick_t rfl rfl ?_
      refine vo_nil ?_
      refine hK3 _ ?_
      refine vc_cond_t rfl ?_
      refine vc_seq fun K5 hK5 => ?_
      refine vc_region ?_
      refine vo_assign_pv rfl rfl ?_
      refine vo_nil ?_
      refine hK5 _ ?_
      refine vc_ret ?_
      change retQ _ _ _ _ _
      refine retQ_sel [] (srows := []) (.inr rfl) hC rfl rfl rfl rfl rfl rfl rfl ?_
      refine ⟨?_, rfl⟩
      refine (congrArg (fun b => [bo b]) (?_ : _ = _) : [bo _] = [bo _])
      skip
      first
        | exact bF fun h => absurd (⟨by have := h.1; omega, h.2.1⟩ : (a.length : Int) ≤ 40 ∧ (nms a).Nodup) ‹¬ ((a.length : Int) ≤ 40 ∧ (nms a).Nodup)›
        | exact bF fun h => absurd (⟨h.1, h.2.1⟩ : a.length ≤ 40 ∧ (nms a).Nodup) ‹¬ (a.length ≤ 40 ∧ (nms a).Nodup)›
        | exact bF fun h => absurd (⟨by have := h.1; have := h.2.2.1; omega, nodup_of_sub h.2.1 (by have := h.2.2.1; omega) h.2.2.2⟩ : b.length ≤ 40 ∧ (nms b).Nodup) ‹¬ (b.length ≤ 40 ∧ (nms b).Nodup)›
        | exact bF fun h => by have := h.2.2.1; omega
        | exact bF fun h => ‹a.getD k (0, 0) ∉ b› (h.2.2.2 _ (getD_mem (show k < a.length by omega) (0, 0)))
        | exact bF (spairs_bad (k := k) (by omega) (by omega))
        | exact bF (spairs_bad2 (k := k) (by omega) (by simp_all) (by omega) (by assumption))
        | (rw [take_all (by omega)] at hf; exact bT ⟨by omega, by simp_all, by omega, hf⟩)
    · try simp only [decide_eq_true_eq, decide_eq_false_iff_not, beq_iff_eq, bne_iff_ne, beq_eq_false_iff_ne, bne_eq_false_iff_eq, Bool.not_eq_true, Bool.not_eq_false, Bool.not_eq_eq_eq_not, Bool.not_true, Bool.not_false, List.length_map, Int.not_lt, Int.not_le, ne_eq, Decidable.not_not] at hg2
      refine vo_guard_on rfl rfl rfl ?_
      refine vo_move_pv rfl rfl ?_
      refine vo_guard_on rfl rfl rfl ?_
      refine vo_len_pv rfl rfl Try.underlying32 ?_
      refine vo_guard_on rfl rfl rfl ?_
      refine vo_move_pv rfl rfl ?_
      refine vo_guard_on rfl rfl rfl ?_
      refine vo_len_pv rfl rfl Try.underlying32 ?_
      refine vo_guard_on rfl rfl rfl ?_
      refine vo_binI rfl rfl rfl rfl trivial ?_
      refine vo_pick_f rfl rfl ?_
      refine vo_nil ?_
      refine hK3 _ ?_
      refine vc_cond rfl (fun hc3 => ?_) (fun hc3 => ?_)
      · try simp only [decide_eq_true_eq, decide_eq_false_iff_not, beq_iff_eq, bne_iff_ne, beq_eq_false_iff_ne, bne_eq_false_iff_eq, Bool.not_eq_true, Bool.not_eq_false, Bool.not_eq_eq_eq_not, Bool.not_true, Bool.not_false, List.length_map, Int.not_lt, Int.not_le, ne_eq, Decidable.not_not] at hc3
        refine vc_seq fun K6 hK6 => ?_
        refine vc_region ?_
        refine vo_assign_pv rfl rfl ?_
        refine vo_nil ?_
        refine hK6 _ ?_
        refine vc_ret ?_
        change retQ _ _ _ _ _
        refine retQ_sel [] (srows := []) (.inr rfl) hC rfl rfl rfl rfl rfl rfl rfl ?_
        refine ⟨?_, rfl⟩
        refine (congrArg (fun b => [bo b]) (?_ : _ = _) : [bo _] = [bo _])
        skip
        first
          | exact bF fun h => absurd (⟨by have := h.1; omega, h.2.1⟩ : (a.length : Int) ≤ 40 ∧ (nms a).Nodup) ‹¬ ((a.length : Int) ≤ 40 ∧ (nms a).Nodup)›
          | exact bF fun h => absurd (⟨h.1, h.2.1⟩ : a.length ≤ 40 ∧ (nms a).Nodup) ‹¬ (a.length ≤ 40 ∧ (nms a).Nodup)›
          | exact bF fun h => absurd (⟨by have := h.1; have := h.2.2.1; omega, nodup_of_sub h.2.1 (by have := h.2.2.1; omega) h.2.2.2⟩ : b.length ≤ 40 ∧ (nms b).Nodup) ‹¬ (b.length ≤ 40 ∧ (nms b).Nodup)›
          | exact bF fun h => by have := h.2.2.1; omega
          | exact bF fun h => ‹a.getD k (0, 0) ∉ b› (h.2.2.2 _ (getD_mem (show k < a.length by omega) (0, 0)))
          | exact bF (spairs_bad (k := k) (by omega) (by omega))
          | exact bF (spairs_bad2 (k := k) (by omega) (by simp_all) (by omega) (by assumption))
          | (rw [take_all (by omega)] at hf; exact bT ⟨by omega, by simp_all, by omega, hf⟩)
      · try simp only [decide_eq_true_eq, decide_eq_false_iff_not, beq_iff_eq, bne_iff_ne, beq_eq_false_iff_ne, bne_eq_false_iff_eq, Bool.not_eq_true, Bool.not_eq_false, Bool.not_eq_eq_eq_not, Bool.not_true, Bool.not_false, List.length_map, Int.not_lt, Int.not_le, ne_eq, Decidable.not_not] at hc3
        refine vc_skip ?_
        refine hK2 _ ?_
        refine vc_seq fun K7 hK7 => ?_
        refine vc_seq fun K8 hK8 => ?_
        refine vc_region ?_
        refine vo_assign_pv rfl rfl ?_
        refine vo_nil ?_
        refine hK8 _ ?_
        refine vc_block ?_
        refine vc_stM ?_
        refine vc_loopE [0, 1] [5] [] _ _ (fun mz vs rs => ∃ (k : Nat), mz = a.length - k ∧ (k ≤ a.length) ∧ (∀ p ∈ a.take k, p ∈ b) ∧ vs = [i64 k] ∧ rs = []) (a.length) rfl rfl (le_len hC rfl) ⟨rfl, rfl, rfl⟩ rfl ⟨0, rfl, Nat.zero_le _, (by simp), rfl, rfl⟩ ?_
        rintro mz vs rs - - ⟨k, rfl, hk, hf, rfl, rfl⟩
        refine vc_stM ?_
        refine vc_seq fun K9 hK9 => ?_
        refine vc_seq fun K10 hK10 => ?_
        refine vc_region ?_
        refine vo_move_pv rfl rfl ?_
        refine vo_move_pv rfl rfl ?_
        refine vo_len_pv rfl rfl Try.underlying32 ?_
        refine vo_binI rfl rfl rfl rfl trivial ?_
        refine vo_nil ?_
        refine hK10 _ ?_
        refine vc_cond rfl (fun hc4 => ?_) (fun hc4 => ?_)
        · try simp only [decide_eq_true_eq, decide_eq_false_iff_not, beq_iff_eq, bne_iff_ne, beq_eq_false_iff_ne, bne_eq_false_iff_eq, Bool.not_eq_true, Bool.not_eq_false, Bool.not_eq_eq_eq_not, Bool.not_true, Bool.not_false, List.length_map, Int.not_lt, Int.not_le, ne_eq, Decidable.not_not] at hc4
          refine vc_skip ?_
          refine hK9 _ ?_
          refine vc_seq fun K11 hK11 => ?_
          refine vc_block ?_
          refine vc_seq fun K12 hK12 => ?_
          refine vc_region ?_
          refine vo_move_pv rfl rfl ?_
          refine vo_move_pv rfl rfl ?_
          refine vo_move_pv rfl rfl ?_
          refine vo_index_pv (.agg [(.int .i64 0), (.int .i64 0)]) rfl rfl rfl E32.und inf37 sz37 sd sd ?_
          simp only [Int.toNat_natCast, Int.toNat_zero, getD_ints, getD_intss, getD_bools, getD_bytes, PV.cells, getD_ops, getD_pairs, getD_insts]
          refine vo_fieldAddr_adr rfl rfl Try.underlying37 rfl inf3 (by rw [sz3]; decide) ?_
          refine vo_load_adr rfl rfl Try.underlying3 rfl ?_
          refine vo_call0 Try.func62 rfl rfl rfl rfl (pairAt_sat hb) ?_
          rintro _ _ ⟨rfl, rfl⟩
          refine ⟨rfl, rfl, .inl rfl, ?_⟩
          refine vo_stM ?_
          refine vo_assign_pv rfl rfl ?_
          refine vo_nil ?_
          refine hK12 _ ?_
          refine vc_seq fun K13 hK13 => ?_
          refine vc_draw (by kernel_rfl) ?_
          change VD _ _ _ 15 _ _ _
          refine vd_light 0 rfl rfl rfl (by kernel_rfl) (by kernel_rfl) (by kernel_rfl) (wnt_none rfl) (lt_move_pv rfl) ?_
          refine vd_light 1 rfl rfl rfl (by kernel_rfl) (by kernel_rfl) (by kernel_rfl) (wnt_none rfl) (lt_binI rfl rfl rfl trivial) ?_
          refine vd_light 2 rfl rfl rfl (by kernel_rfl) (by kernel_rfl) (by kernel_rfl) (wnt_none rfl) (lt_move_pv rfl) ?_
          refine vd_split 37 rfl (fun hg5 => ?_) (fun hg5 => ?_)
          · try simp only [decide_eq_true_eq, decide_eq_false_iff_not, beq_iff_eq, bne_iff_ne, beq_eq_false_iff_ne, bne_eq_false_iff_eq, Bool.not_eq_true, Bool.not_eq_false, Bool.not_eq_eq_eq_not, Bool.not_true, Bool.not_false, List.length_map, Int.not_lt, Int.not_le, ne_eq, Decidable.not_not] at hg5
            refine vd_skip 3 rfl rfl rfl (by kernel_rfl) (by kernel_rfl) (by kernel_rfl) (wnt_off rfl rfl rfl rfl rfl) ?_
            refine vd_skip 4 rfl rfl rfl (by kernel_rfl) (by kernel_rfl) (by kernel_rfl) (wnt_off rfl rfl rfl rfl rfl) ?_
            refine vd_skip 5 rfl rfl rfl (by kernel_rfl) (by kernel_rfl) (by kernel_rfl) (wnt_off rfl rfl rfl rfl rfl) ?_
            refine vd_skip 6 rfl rfl rfl (by kernel_rfl) (by kernel_rfl) (by kernel_rfl) (wnt_off rfl rfl rfl rfl rfl) ?_
            refine vd_skip 7 rfl rfl rfl (by kernel_rfl) (by kernel_rfl) (by kernel_rfl) (wnt_off rfl rfl rfl rfl rfl) ?_
            refine vd_skip 8 rfl rfl rfl (by kernel_rfl) (by kernel_rfl) (by kernel_rfl) (wnt_off rfl rfl rfl rfl rfl) ?_
            refine vd_skip 9 rfl rfl rfl (by kernel_rfl) (by kernel_rfl) (by kernel_rfl) (wnt_off rfl rfl rfl rfl rfl) ?_
            refine vd_skip 10 rfl rfl rfl (by kernel_rfl) (by kernel_rfl) (by kernel_rfl) (wnt_off rfl rfl rfl rfl rfl) ?_
            refine vd_skip 11 rfl rfl rfl (by kernel_rfl) (by kernel_rfl) (by kernel_rfl) (wnt_off rfl rfl rfl rfl rfl) ?_
            refine vd_skip 12 rfl rfl rfl (by kernel_rfl) (by kernel_rfl) (by kernel_rfl) (wnt_off rfl rfl rfl rfl rfl) ?_
            refine vd_skip 13 rfl rfl rfl (by kernel_rfl) (by kernel_rfl) (by kernel_rfl) (wnt_off rfl rfl rfl rfl rfl) ?_
            refine vd_light 14 rfl rfl rfl (by kernel_rfl) (by kernel_rfl) (by kernel_rfl) (wnt_none rfl) (lt_pick_t rfl) ?_
            refine vd_nil (by kernel_rfl) ?_
            refine hK13 _ ?_
            refine vc_cond_t rfl ?_
            refine vc_seq fun K14 hK14 => ?_
            refine vc_region ?_
            refine vo_assign_pv rfl rfl ?_
            refine vo_nil ?_
            refine hK14 _ ?_
            refine vc_ret ?_
            change retQ _ _ _ _ _
            refine retQ_sel [] (srows := []) (.inr rfl) hC rfl rfl rfl rfl rfl rfl rfl ?_
            refine ⟨?_, rfl⟩
            refine (congrArg (fun b => [bo b]) (?_ : _ = _) : [bo _] = [bo _])
            skip
            first
              | exact bF fun h => absurd (⟨by have := h.1; omega, h.2.1⟩ : (a.length : Int) ≤ 40 ∧ (nms a).Nodup) ‹¬ ((a.length : Int) ≤ 40 ∧ (nms a).Nodup)›
              | exact bF fun h => absurd (⟨h.1, h.2.1⟩ : a.length ≤ 40 ∧ (nms a).Nodup) ‹¬ (a.length ≤ 40 ∧ (nms a).Nodup)›
              | exact bF fun h => absurd (⟨by have := h.1; have := h.2.2.1; omega, nodup_of_sub h.2.1 (by have := h.2.2.1; omega) h.2.2.2⟩ : b.length ≤ 40 ∧ (nms b).Nodup) ‹¬ (b.length ≤ 40 ∧ (nms b).Nodup)›
              | exact bF fun h => by have := h.2.2.1; omega
              | exact bF fun h => ‹a.getD k (0, 0) ∉ b› (h.2.2.2 _ (getD_mem (show k < a.length by omega) (0, 0)))
              | exact bF (spairs_bad (k := k) (by omega) (by omega))
              | exact bF (spairs_bad2 (k := k) (by omega) (by simp_all) (by omega) (by assumption))
              | (rw [take_all (by omega)] at hf; exact bT ⟨by omega, by simp_all, by omega, hf⟩)
          · try simp only [decide_eq_true_eq, decide_eq_false_iff_not, beq_iff_eq, bne_iff_ne, beq_eq_false_iff_ne, bne_eq_false_iff_eq, Bool.not_eq_true, Bool.not_eq_false, Bool.not_eq_eq_eq_not, Bool.not_true, Bool.not_false, List.length_map, Int.not_lt, Int.not_le, ne_eq, Decidable.not_not] at hg5
            have hlt := findM_lt (b := b) hg5
            refine vd_light 3 rfl rfl rfl (by kernel_rfl) (by kernel_rfl) (by kernel_rfl) (wnt_on rfl rfl rfl rfl) (lt_move_pv rfl) ?_
            refine vd_light 4 rfl rfl rfl (by kernel_rfl) (by kernel_rfl) (by kernel_rfl) (wnt_on rfl rfl rfl rfl) (lt_move_pv rfl) ?_
            refine vd_light 5 rfl rfl rfl (by kernel_rfl) (by kernel_rfl) (by kernel_rfl) (wnt_on rfl rfl rfl rfl) (lt_index_pv (.agg [(.int .i64 0), (.int .i64 0)]) rfl rfl E32.und inf37 sz37 sd sd) ?_
            simp only [Int.toNat_natCast, Int.toNat_zero, getD_ints, getD_intss, getD_bools, getD_bytes, PV.cells, getD_ops, getD_pairs, getD_insts]
            refine vd_light 6 rfl rfl rfl (by kernel_rfl) (by kernel_rfl) (by kernel_rfl) (wnt_on rfl rfl rfl rfl) (lt_fieldAddr_adr rfl Try.underlying37 rfl inf3 (by rw [sz3]; decide)) ?_
            refine vd_light 7 rfl rfl rfl (by kernel_rfl) (by kernel_rfl) (by kernel_rfl) (wnt_on rfl rfl rfl rfl) (lt_load_adr rfl Try.underlying3 rfl) ?_
            refine vd_light 8 rfl rfl rfl (by kernel_rfl) (by kernel_rfl) (by kernel_rfl) (wnt_on rfl rfl rfl rfl) (lt_move_pv rfl) ?_
            refine vd_light 9 rfl rfl rfl (by kernel_rfl) (by kernel_rfl) (by kernel_rfl) (wnt_on rfl rfl rfl rfl) (lt_move_pv rfl) ?_
            refine vd_light 10 rfl rfl rfl (by kernel_rfl) (by kernel_rfl) (by kernel_rfl) (wnt_on rfl rfl rfl rfl) (lt_index_pv (.agg [(.int .i64 0), (.int .i64 0)]) rfl rfl E32.und inf37 sz37 sd sd) ?_
            simp only [Int.toNat_natCast, Int.toNat_zero, getD_ints, getD_intss, getD_bools, getD_bytes, PV.cells, getD_ops, getD_pairs, getD_insts]
            refine vd_light 11 rfl rfl rfl (by kernel_rfl) (by kernel_rfl) (by kernel_rfl) (wnt_on rfl rfl rfl rfl) (lt_fieldAddr_adr rfl Try.underlying37 rfl inf3 (by rw [sz3]; decide)) ?_
            refine vd_light 12 rfl rfl rfl (by kernel_rfl) (by kernel_rfl) (by kernel_rfl) (wnt_on rfl rfl rfl rfl) (lt_load_adr rfl Try.underlying3 rfl) ?_
            refine vd_light 13 rfl rfl rfl (by kernel_rfl) (by kernel_rfl) (by kernel_rfl) (wnt_on rfl rfl rfl rfl) (lt_binI rfl rfl rfl trivial) ?_
            refine vd_light 14 rfl rfl rfl (by kernel_rfl) (by kernel_rfl) (by kernel_rfl) (wnt_none rfl) (lt_pick_f rfl) ?_
            refine vd_nil (by kernel_rfl) ?_
            refine hK13 _ ?_
            refine vc_cond rfl (fun hc6 => ?_) (fun hc6 => ?_)
            · try simp only [decide_eq_true_eq, decide_eq_false_iff_not, beq_iff_eq, bne_iff_ne, beq_eq_false_iff_ne, bne_eq_false_iff_eq, Bool.not_eq_true, Bool.not_eq_false, Bool.not_eq_eq_eq_not, Bool.not_true, Bool.not_false, List.length_map, Int.not_lt, Int.not_le, ne_eq, Decidable.not_not] at hc6
              refine vc_seq fun K15 hK15 => ?_
              refine vc_region ?_
              refine vo_assign_pv rfl rfl ?_
              refine vo_nil ?_
              refine hK15 _ ?_
              refine vc_ret ?_
              change retQ _ _ _ _ _
              refine retQ_sel [] (srows := []) (.inr rfl) hC rfl rfl rfl rfl rfl rfl rfl ?_
              refine ⟨?_, rfl⟩
              refine (congrArg (fun b => [bo b]) (?_ : _ = _) : [bo _] = [bo _])
              skip
              first
                | exact bF fun h => absurd (⟨by have := h.1; omega, h.2.1⟩ : (a.length : Int) ≤ 40 ∧ (nms a).Nodup) ‹¬ ((a.length : Int) ≤ 40 ∧ (nms a).Nodup)›
                | exact bF fun h => absurd (⟨h.1, h.2.1⟩ : a.length ≤ 40 ∧ (nms a).Nodup) ‹¬ (a.length ≤ 40 ∧ (nms a).Nodup)›
                | exact bF fun h => absurd (⟨by have := h.1; have := h.2.2.1; omega, nodup_of_sub h.2.1 (by have := h.2.2.1; omega) h.2.2.2⟩ : b.length ≤ 40 ∧ (nms b).Nodup) ‹¬ (b.length ≤ 40 ∧ (nms b).Nodup)›
                | exact bF fun h => by have := h.2.2.1; omega
                | exact bF fun h => ‹a.getD k (0, 0) ∉ b› (h.2.2.2 _ (getD_mem (show k < a.length by omega) (0, 0)))
                | exact bF (spairs_bad (k := k) (by omega) (by omega))
                | exact bF (spairs_bad2 (k := k) (by omega) (by simp_all) (by omega) (by assumption))
                | (rw [take_all (by omega)] at hf; exact bT ⟨by omega, by simp_all, by omega, hf⟩)
            · try simp only [decide_eq_true_eq, decide_eq_false_iff_not, beq_iff_eq, bne_iff_ne, beq_eq_false_iff_ne, bne_eq_false_iff_eq, Bool.not_eq_true, Bool.not_eq_false, Bool.not_eq_eq_eq_not, Bool.not_true, Bool.not_false, List.length_map, Int.not_lt, Int.not_le, ne_eq, Decidable.not_not] at hc6
              refine vc_skip ?_
              refine hK11 _ ?_
              refine vc_region ?_
              refine vo_move_pv rfl rfl ?_
              refine vo_binI rfl rfl rfl rfl sd ?_
              refine vo_assign_pv rfl rfl ?_
              refine vo_nil ?_
              change againE _ _ _ _ _ _ _ _ _ _
              refine againE_mk rfl rfl rfl rfl rfl rfl ⟨_, ?_, k + 1, rfl, ?_, ?_, rfl, rfl⟩
              · omega
              · omega
              · exact spairs_step (by omega) (by omega) (by omega) hf
        · try simp only [decide_eq_true_eq, decide_eq_false_iff_not, beq_iff_eq, bne_iff_ne, beq_eq_false_iff_ne, bne_eq_false_iff_eq, Bool.not_eq_true, Bool.not_eq_false, Bool.not_eq_eq_eq_not, Bool.not_true, Bool.not_false, List.length_map, Int.not_lt, Int.not_le, ne_eq, Decidable.not_not] at hc4
          refine vc_exit ?_
          refine hK7 _ ?_
          refine vc_seq fun K16 hK16 => ?_
          refine vc_region ?_
          refine vo_assign_pv rfl rfl ?_
          refine vo_nil ?_
          refine hK16 _ ?_
          refine vc_ret ?_
          change retQ _ _ _ _ _
          refine retQ_sel [] (srows := []) (.inr rfl) hC rfl rfl rfl rfl rfl rfl rfl ?_
          refine ⟨?_, rfl⟩
          refine (congrArg (fun b => [bo b]) (?_ : _ = _) : [bo _] = [bo _])
          skip
          first
            | exact bF fun h => absurd (⟨by have := h.1; omega, h.2.1⟩ : (a.length : Int) ≤ 40 ∧ (nms a).Nodup) ‹¬ ((a.length : Int) ≤ 40 ∧ (nms a).Nodup)›
            | exact bF fun h => absurd (⟨h.1, h.2.1⟩ : a.length ≤ 40 ∧ (nms a).Nodup) ‹¬ (a.length ≤ 40 ∧ (nms a).Nodup)›
            | exact bF fun h => absurd (⟨by have := h.1; have := h.2.2.1; omega, nodup_of_sub h.2.1 (by have := h.2.2.1; omega) h.2.2.2⟩ : b.length ≤ 40 ∧ (nms b).Nodup) ‹¬ (b.length ≤ 40 ∧ (nms b).Nodup)›
            | exact bF fun h => by have := h.2.2.1; omega
            | exact bF fun h => ‹a.getD k (0, 0) ∉ b› (h.2.2.2 _ (getD_mem (show k < a.length by omega) (0, 0)))
            | exact bF (spairs_bad (k := k) (by omega) (by omega))
            | exact bF (spairs_bad2 (k := k) (by omega) (by simp_all) (by omega) (by assumption))
            | (rw [take_all (by omega)] at hf; exact bT ⟨by omega, by simp_all, by omega, hf⟩)


end Go.Vl


namespace Go.Vl
set_option linter.unusedVariables false
set_option linter.unusedSimpArgs false
open Go.Proofs
open Go.Proofs
def GI63 (x : InstM) : Prop := x.order.length ≤ 9223372036854775807 ∧ x.values.length ≤ 9223372036854775807 ∧ x.own.length ≤ 9223372036854775807
def GH63 (h : HeapM) : Prop := h.keys.length ≤ 9223372036854775807 ∧ h.insts.length ≤ 9223372036854775807 ∧ ∀ x ∈ h.insts, GI63 x
/-- Sizes that the conversions need. -/
def SI (x : InstM) : Prop := x.order.length ≤ 2000000 ∧ x.values.length ≤ 2000000 ∧ x.own.length ≤ 2000000
def SH (h : HeapM) : Prop := h.keys.length ≤ 2000000 ∧ h.insts.length ≤ 2000000 ∧ ∀ x ∈ h.insts, SI x
end Go.Vl


namespace Go.Vl
set_option linter.unusedVariables false
set_option linter.unusedSimpArgs false
open Go.Proofs

/-- The places of the values that are there. -/
def plc (vs : List Int) (k : Nat) : List Int := ((List.range k).filter fun i => decide (vs.getD i 0 ≠ -1)).map Int.ofNat
def TPl (order vs : List Int) : Prop := (∀ x ∈ plc vs vs.length, x ∈ order) ∧ order.length = (plc vs vs.length).length
instance (a b : List Int) : Decidable (TPl a b) := by unfold TPl; exact inferInstance
def okPair (p : Int × Int) : Prop := (0 ≤ p.1 ∧ p.1 ≤ 9) ∧ (0 ≤ p.2 ∧ p.2 ≤ 99)
instance (p : Int × Int) : Decidable (okPair p) := by unfold okPair; exact inferInstance
def AOwn (l : List (Int × Int)) : Prop := (nms l).Nodup ∧ ∀ p ∈ l, okPair p
instance (l : List (Int × Int)) : Decidable (AOwn l) := by unfold AOwn; exact inferInstance
def AShared (vs : List Int) : Prop := (∀ v ∈ vs, -1 ≤ v ∧ v ≤ 99) ∧ (vs.length = 0 ∨ 0 ≤ vs.getD (vs.length - 1) 0)
instance (l : List Int) : Decidable (AShared l) := by unfold AShared; exact inferInstance
def VInst (n : Nat) (x : InstM) : Prop := if x.shares = true then x.own.length = 0 ∧ x.values.length ≤ n ∧ AShared x.values ∧ TPl x.order x.values else x.order.length = 0 ∧ x.values.length = 0 ∧ AOwn x.own
instance (n : Nat) (x : InstM) : Decidable (VInst n x) := by unfold VInst; exact inferInstance
def VHeap (h : HeapM) : Prop := (h.keys.length ≤ 5 ∧ h.keys.Nodup) ∧ (∀ k ∈ h.keys, 0 ≤ k ∧ k ≤ 9) ∧ h.insts.length = 4 ∧ ∀ x ∈ h.insts, VInst h.keys.length x
instance (h : HeapM) : Decidable (VHeap h) := by unfold VHeap; exact inferInstance
/-- What trimming leaves. -/
def TrM (vs : List Int) (m : Nat) : Prop := m ≤ vs.length ∧ (∀ i, m ≤ i → i < vs.length → vs.getD i 0 = -1) ∧ (m = 0 ∨ vs.getD (m - 1) 0 ≠ -1)
end Go.Vl


namespace Go.Vl
set_option linter.unusedVariables false
set_option linter.unusedSimpArgs false
open Go.Proofs

end Go.Vl


namespace Go.Vl
set_option linter.unusedVariables false
set_option linter.unusedSimpArgs false
open Go.Proofs

/-- The pair at a place. -/
def pfn (keys vals : List Int) (p : Int) : Int × Int := (keys.getD p.toNat 0, vals.getD p.toNat 0)
def ppl (keys vals l : List Int) : List (Int × Int) := l.map (pfn keys vals)
@[simp] theorem ppl_len (keys vals l : List Int) : (ppl keys vals l).length = l.length := by simp [ppl]
def prs (keys : List Int) (x : InstM) : List (Int × Int) := if x.shares = true then ppl keys x.values x.order else x.own
def prsM (h : HeapM) (who : Int) : List (Int × Int) := if VHeap h ∧ 0 ≤ who ∧ who ≤ 3 then prs h.keys (h.insts.getD who.toNat ⟨false, [], [], []⟩) else []
/-- The places of an order lie among keys and values. -/
def OrdOk (n : Nat) (x : InstM) : Prop := x.shares = true → ∀ p ∈ x.order, 0 ≤ p ∧ p < n ∧ p < x.values.length
theorem scal_pairs (l : List (Int × Int)) : ∀ x ∈ l.map pairP, ∀ c ∈ x.cells, c.scal = true := by
  intro x hx c hc
  obtain ⟨n, _, rfl⟩ := List.mem_map.1 hx
  simp [PV.cells] at hc
  rcases hc with rfl | rfl <;> rfl
def vl (l : List (Int × Int)) (n : Int) : Int := if findM n (nms l) 0 < 0 then -1 else (l.getD (findM n (nms l) 0).toNat (0, 0)).2
theorem row_pairs {el : TypeId} {e : Nat} {nl : Option Bool} {f : Bool} {xs ys : List (Int × Int)} (h : xs = ys) : [Row.own el e nl f (xs.map pairP)] = [Row.own el e nl f (ys.map pairP)] := by rw [h]

end Go.Vl

