/- Part 2 of the texts that the proof of FnExactValueIn is built on. -/
import Derived.Test.YtajolcdboifjaaaVl1
import Derived.Laws.StructEq
import Derived.MapKept
import Derived.Test.YtajolcdboifjaaaProg
import Derived.KernelRfl
import Derived.ProofKit
import Derived.OpenShut
import Derived.Below
import Derived.Deep.Matrix
import Derived.ChangeArms
import Derived.ChangeSame
/- Rows whose slices are their own: made, written, lent in part. -/
namespace Go.Vl
set_option linter.unusedVariables false
set_option linter.unusedSimpArgs false
open Go.RowKit

/-- No slice but the nil one. -/
def plainB : PV → Bool
  | .sl (some true) _ [] => true
  | p => p.scal

def plainX (xs : List PV) : Prop := ∀ x ∈ xs, ∀ c ∈ x.cells, plainB c = true
section
variable {P : Program} {C : Ctx} {Q : Go.Exit → St → Prop} {s : St} {ops : Array Oper} {rest : List Oper} {t : Nat} {ty : TypeId} {pos : String} {af : Array Edge}

end
end Go.Vl


/- A part of a row whose slices are its own is lent to a function, which may write it. -/
namespace Go.Vl
set_option linter.unusedVariables false
set_option linter.unusedSimpArgs false
open Go.RowKit

section
variable {P : Program} {C : Ctx} {Q : Go.Exit → St → Prop} {s : St} {ops : Array Oper} {rest : List Oper} {t : Nat} {ty : TypeId} {pos : String} {af : Array Edge}

def SV.isScal : SV → Bool
  | .pv _ p => p.scal
  | _ => false

end
end Go.Vl
namespace Go.Vl
theorem TP.weak {w : World} {nl : Option Bool} {e : Nat} {xs : List PV} {v : Value} {S : Nat → Prop} (h : TP w (.sl nl e xs) v S) : TP w (.sl none e xs) v S := by
  cases h with
  | scal _ _ _ hsc => simp [PV.scal] at hsc
  | sl t e nl xs v vals Sf S hown h1 h2 hw hr hd hn hz hS => exact .sl t e none xs v vals Sf S hown (fun h => by cases h) (fun h => by cases h) hw hr hd hn hz hS

/-- Numbers that go up one by one. -/
def markL (k : Int) (n : Nat) : List Int := (List.range n).map (fun (j : Nat) => k + (j : Int))
end Go.Vl


/- 'copy' of a whole slice; a slice held against nil; ghost steps on slots. -/
namespace Go.Vl
set_option linter.unusedVariables false
set_option linter.unusedSimpArgs false
open Go.RowKit

section
variable {P : Program} {C : Ctx} {Q : Go.Exit → St → Prop} {s : St} {ops : Array Oper} {rest : List Oper} {t : Nat} {ty : TypeId} {pos : String} {af : Array Edge}

/-- A ghost step: a slot forgets whether its slice is nil. -/
theorem vc_weaken {code : Code} (u : Nat) {e : Nat} {nl : Option Bool} {f : Bool} {xs : List PV} (hu : look s.env u = .pv f (.sl nl e xs))
    (next : VC P C code Q ⟨s.n, (u, .pv f (.sl none e xs)) :: s.env, s.rows⟩) : VC P C code Q s := by
  intro a w ⟨m, hs⟩
  refine next a w ⟨m, { hs with env := fun q => ?_ }⟩
  show RS _ _ _ _ (look ((u, .pv f (.sl none e xs)) :: s.env) q) _
  rw [look_cons]
  split
  · rename_i e
    subst e
    have hv := hs.env q
    rw [hu] at hv
    exact .pv _ _ _ hv.pv_inv.weaken
  · exact hs.env q

/-- A slice held against the literal nil. -/
theorem vo_eqnil {x : Operand} {T T2 el : TypeId} {f : Bool} {nl : Option Bool} {e : Nat} {xs : List PV} (ht : Nat.blt t s.n = true) (hx : getO s.env x = .pv f (.sl nl e xs)) (hT : P.underlying T = some (.slice el))
    (next : ∀ b : Bool, (b = true → xs = []) → (nl = some true → b = true) → (nl = some false → b = false) → VO P C ops rest Q (s.put t (.pv true (.bool b)))) :
    VO P C ops (⟨some t, .binOp .eql T x (.const (.slice none 0 0)) T2, ty, pos, af, none⟩ :: rest) Q s := by
  intro a w ⟨m, hs⟩
  have hv := hs.get x
  rw [hx] at hv
  have hv := hv.pv_inv
  have key : ∃ b : Bool, (b = true → xs = []) ∧ (nl = some true → b = true) ∧ (nl = some false → b = false) ∧ (execOp a.eval ⟨some t, .binOp .eql T x (.const (.slice none 0 0)) T2, ty, pos, af, none⟩).run P w = .ok (.value (.bool b)) w := by
    have hrun : ∀ (o : Option Addr) (l c : Nat), a.eval x = .slice o l c → (execOp a.eval ⟨some t, .binOp .eql T x (.const (.slice none 0 0)) T2, ty, pos, af, none⟩).run P w = .ok (.value (.bool o.isNone)) w := by
      intro o l c e
      have hg : (eqGuard .eql T x (.const (.slice none 0 0)) (.slice o l c) (.slice none 0 0)).run P w = .ok () w := rfl
      have heq : (Op.equal T (.slice o l c) (.slice none 0 0)).run P w = .ok o.isNone w := by
        show (Op.equalIn (9999 + 1) T (.slice o l c) (.slice none 0 0)).run P w = _
        unfold Op.equalIn
        cases o <;> simp [run_underlying hT]
      have hb : (binOp .eql T (.slice o l c) (.slice none 0 0)).run P w = .ok (.bool o.isNone) w := by
        show (do pure (Value.bool (← Op.equal T (.slice o l c) (.slice none 0 0))) : Sem Value).run P w = _
        simp [heq]
      have e3 : a.eval (.const (.slice none 0 0)) = .slice none 0 0 := rfl
      simp only [execOp, e, e3]
      simp [hg, hb]
    generalize hav : a.eval x = v at *
    cases hv with
    | nilsl nl e hn => exact ⟨true, fun _ => rfl, fun _ => rfl, fun h => (hn h).elim, hrun none 0 0 rfl⟩
    | sl nl e xs ad len cap fv h hsp hl hcap hg hw hc hr => exact ⟨false, (fun h => by cases h), fun e => (h e).elim, fun _ => rfl, hrun (some ad) len cap rfl⟩
  obtain ⟨b, h1, h2, h3, hrun⟩ := key
  refine wpList_plain rfl fun K hK => ?_
  unfold Oper.wp
  rw [hrun, Oper.upon_value]
  exact hK _ _ (next b h1 h2 h3 _ _ ⟨m, hs.put (blt_lt ht) (.pv _ _ _ (.bool b))⟩)

end
end Go.Vl


/- Classes above a class, and below it. -/
namespace Go.Vl
set_option linter.unusedVariables false
set_option linter.unusedSimpArgs false

/-- Steps lead from a class to another one. -/
inductive Abv (b : List (List Int)) : Nat → Nat → Prop
  | refl (c : Nat) : Abv b c c
  | step {c d x : Nat} (h : (d : Int) ∈ b.getD c []) (h2 : Abv b d x) : Abv b c x

theorem Abv.trans {b : List (List Int)} {c d x : Nat} (h : Abv b c d) (h2 : Abv b d x) : Abv b c x := by
  induction h with
  | refl c => exact h2
  | step h _ ih => exact .step h (ih h2)

def mkB (l : List Int) (m : List Bool) : List Bool := l.foldl (fun m x => m.set x.toNat true) m
def stB (b : List (List Int)) (i : Nat) (m : List Bool) : List Bool := if m.getD i false = true then mkB (b.getD i []) m else m
def goB (b : List (List Int)) : Nat → List Bool → List Bool
  | 0, m => m
  | i+1, m => goB b i (stB b (i+1) m)
/-- The same with the root, whose step is none. -/
def goC (b : List (List Int)) : Nat → List Bool → List Bool
  | 0, m => m
  | i+1, m => goC b i (stB b i m)
def abvB (b : List (List Int)) (c : Nat) : List Bool := goB b c ((List.replicate b.length false).set c true)
def idxT (m : List Bool) (k : Nat) : List Int := ((List.range k).filter (fun i => m.getD i false)).map (fun (i : Nat) => (i : Int))
def idxB (m : List Bool) : List Int := idxT m m.length
def abvL (b : List (List Int)) (c : Nat) : List Int := idxB (abvB b c)

/-- The marks of all classes below a class. -/
def belB (b : List (List Int)) (c : Nat) : List Bool := (List.range b.length).map (fun i => decide ((c : Int) ∈ abvL b i))
def belL (b : List (List Int)) (c : Nat) : List Int := idxB (belB b c)
end Go.Vl


/- Lists that keep others; merges of lists. -/
namespace Go.Vl
set_option linter.unusedVariables false
set_option linter.unusedSimpArgs false

/-- How far the second list is met along the first one, from a place on. -/
def kpN (short : List Int) : List Int → Nat → Nat
  | [], a => a
  | x :: l, a => kpN short l (if a < short.length ∧ short.getD a 0 = x then a + 1 else a)

/-- What KeepsOrder says. -/
def KO (long short : List Int) : Prop := OKL' long ∧ OKL' short ∧ short.Sublist long
  where OKL' (l : List Int) : Prop := (l.length : Int) ≤ 12 ∧ l.Nodup
end Go.Vl


/- Merges of lists. -/
namespace Go.Vl
set_option linter.unusedVariables false
set_option linter.unusedSimpArgs false

def fM (n : Int) : List Int → Int → Int
  | [], _ => -1
  | x :: xs, i => if x = n then i else fM n xs (i+1)

/-- Behind the first place. -/
def bhd (x : Int) (l : List Int) : Prop := 0 < fM x l 0
instance {x : Int} {l : List Int} : Decidable (bhd x l) := by unfold bhd; infer_instance
def anyB (ls : List (List Int)) (x : Int) : Prop := ∃ l ∈ ls, bhd x l
instance {ls : List (List Int)} {x : Int} : Decidable (anyB ls x) := by unfold anyB; infer_instance

def freeH (all : List (List Int)) (l : List Int) : Option Int := if 0 < l.length ∧ ¬ anyB all (l.getD 0 0) then some (l.getD 0 0) else none
def fhF (all : List (List Int)) : List (List Int) → Option Int
  | [] => none
  | l :: r => match freeH all l with
    | some x => some x
    | none => fhF all r
def fhM (ls : List (List Int)) : Option Int := fhF ls ls
/-- A list without a number at its head. -/
def tk (x : Int) (l : List Int) : List Int := if 0 < l.length ∧ l.getD 0 0 = x then l.drop 1 else l
def tot (ls : List (List Int)) : Nat := (ls.map List.length).sum
def mergeF : Nat → List (List Int) → List Int × List (List Int)
  | 0, ls => ([], ls)
  | n+1, ls => match fhM ls with
    | none => ([], ls)
    | some x => (x :: (mergeF n (ls.map (tk x))).1, (mergeF n (ls.map (tk x))).2)
def mergeM (ls : List (List Int)) : List Int × List (List Int) := mergeF (tot ls) ls
/-- Each once, where it stands first. -/
def onceF : List Int → List Int → List Int
  | acc, [] => acc
  | acc, x :: l => onceF (if x ∈ acc then acc else acc ++ [x]) l
/-- The first numbers of lists. -/
def hd1 (l : List Int) : List Int := l.take 1
def hds (ls : List (List Int)) : List Int := ls.flatMap hd1
end Go.Vl


/- A call that makes rows, in a statement whose order of evaluation is open. -/
namespace Go.Vl
set_option linter.unusedVariables false
set_option linter.unusedSimpArgs false
open Go.RowKit

section
variable {P : Program} {C : Ctx} {ops : Array Oper} {K : St → Prop} {s : St} {n : Nat} {listed : Array Bool}

end
end Go.Vl


/- More ghost steps: a row forgets that what it holds is new. -/
namespace Go.Vl
set_option linter.unusedVariables false
set_option linter.unusedSimpArgs false
open Go.RowKit

section
variable {P : Program} {C : Ctx} {Q : Go.Exit → St → Prop} {s : St}
end
end Go.Vl


/- Nil slices of the call's own that are known to be nil; a slice held to differ from nil. -/
namespace Go.Vl
set_option linter.unusedVariables false
set_option linter.unusedSimpArgs false
open Go.RowKit

section
variable {P : Program} {C : Ctx} {Q : Go.Exit → St → Prop} {s : St} {ops : Array Oper} {rest : List Oper} {t : Nat} {ty : TypeId} {pos : String} {af : Array Edge}

end
end Go.Vl


/- A slice is taken out of a row whose slices are its own: it becomes a row. -/
namespace Go.Vl
set_option linter.unusedVariables false
set_option linter.unusedSimpArgs false
open Go.RowKit

section
variable {P : Program} {C : Ctx} {Q : Go.Exit → St → Prop} {s : St} {ops : Array Oper} {rest : List Oper} {t : Nat} {ty : TypeId} {pos : String} {af : Array Edge}

end
end Go.Vl


/- A row of the call's own held to differ from nil. -/
namespace Go.Vl
set_option linter.unusedVariables false
set_option linter.unusedSimpArgs false
open Go.RowKit

section
variable {P : Program} {C : Ctx} {Q : Go.Exit → St → Prop} {s : St} {ops : Array Oper} {rest : List Oper} {t : Nat} {ty : TypeId} {pos : String} {af : Array Edge}

end
end Go.Vl


/- A slice of a row whose slices are its own held against nil. -/
namespace Go.Vl
set_option linter.unusedVariables false
set_option linter.unusedSimpArgs false
open Go.RowKit

section
variable {P : Program} {C : Ctx} {Q : Go.Exit → St → Prop} {s : St} {ops : Array Oper} {rest : List Oper} {t : Nat} {ty : TypeId} {pos : String} {af : Array Edge}

end
end Go.Vl


/- Ghost steps in a statement whose order is open. -/
namespace Go.Vl
set_option linter.unusedVariables false
set_option linter.unusedSimpArgs false
open Go.RowKit
theorem vd_st {P : Program} {C : Ctx} {ops : Array Oper} {K : St → Prop} {s s' : St} {n : Nat} {listed : Array Bool} (h : s = s') (next : VD P C ops n listed K s') : VD P C ops n listed K s := by rw [h]; exact next
end Go.Vl


/- Statements whose order of evaluation is open, with operations that write: these come when nothing else can. -/
namespace Go.Vl
set_option linter.unusedVariables false
set_option linter.unusedSimpArgs false
open Go.RowKit

section
variable {P : Program} {ops : Array Oper} {Q : Go.Exit → Act → World → Prop}

/-- Whatever order is picked; each step leaves all that was there as it was, or is one of those that come late. -/
def anyL (late : List Nat) (P : Program) (ops : Array Oper) (Q : Go.Exit → Act → World → Prop) : Nat → Array Bool → Act → World → Prop
  | 0, listed, a, w => Region.ready .any ops listed = [] ∧ Q .normal a w
  | n + 1, listed, a, w => (Region.ready .any ops listed = [] → Q .normal a w) ∧
      ∀ i ∈ Region.ready .any ops listed, wpOp P ops Q i (fun a' w' => (ExtW w w' ∨ late.contains i = true) ∧ anyL late P ops Q n (listed.setIfInBounds i true) a' w') a w

theorem any_of_anyL {late : List Nat} : ∀ (n : Nat) (listed : Array Bool) (a : Act) (w : World), anyL late P ops Q n listed a w → wpAny P .any ops Q n listed a w
  | 0, _, _, _, h => h
  | n + 1, _, _, _, h => ⟨h.1, fun i hi => wpOp_mono (fun a' w' h' => any_of_anyL n _ a' w' h'.2) (h.2 i hi)⟩

theorem anyL_first {late : List Nat} {M : Nat → Bool} {i : Nat} {oi : Oper} {v : Value} (hi : ops[i]? = some oi) (hsel : ∀ (j : Nat) (o : Oper) cs b, ops[j]? = some o → o.op ≠ .select cs b) (hQ : ∀ c a w, ¬ Q (.panic c) a w)
    (hcl : ∀ j oj, ops[j]? = some oj → j ≠ i → (∀ e ∈ oj.after, Region.binds .any e = true → M e.on = true) → M j = true ∧ late.contains j = false) :
    ∀ (n : Nat) (listed : Array Bool) (a : Act) (w : World),
      (∀ j oj, ops[j]? = some oj → j ≠ i → listed.getD j true = false → (∀ e ∈ oj.after, Region.binds .any e = true → e.on ≠ i) → oi.apart ops oj = true) →
      (∀ k, listed.getD k false = true → M k = true) →
      i ∈ Region.ready .any ops listed → yieldsE P ops oi v a w → anyL late P ops Q n (listed.setIfInBounds i true) (a.put oi.dst v) w → anyL late P ops Q (n + 1) listed a w := by
  intro n
  induction n with
  | zero =>
    intro listed a w _ _ hr hy H
    refine ⟨fun h => (by rw [h] at hr; cases hr), fun j hj => ?_⟩
    by_cases hji : j = i
    · subst hji; exact hy.op hi ⟨.inl (ExtW.refl w), H⟩
    · have := ready_mono hj hji
      rw [H.1] at this
      cases this
  | succ n ih =>
    intro listed a w hfree hsub hr hy H
    refine ⟨fun h => (by rw [h] at hr; cases hr), fun j hj => ?_⟩
    by_cases hji : j = i
    · subst hji; exact hy.op hi ⟨.inl (ExtW.refl w), H⟩
    · have g1 := H.2 j (ready_mono hj hji)
      obtain ⟨hjun, oj, hoj, hall⟩ := mem_ready.1 hj
      have hnot : ∀ e ∈ oj.after, Region.binds .any e = true → e.on ≠ i := by
        intro e he hb heq
        have l1 := hall e he hb
        have l0 := (mem_ready.1 hr).1
        rw [heq] at l1
        rcases Nat.lt_or_ge i listed.size with h' | h'
        · simp [h'] at l0 l1
          rw [l0] at l1
          cases l1
        · simp [Array.getElem?_eq_none h'] at l1
      obtain ⟨hMj, hlj⟩ := hcl j oj hoj hji (fun e he hb => hsub _ (hall e he hb))
      have hext : ∀ (w' : World), (ExtW w w' ∨ late.contains j = true) → ExtW w w' := by
        intro w' h
        rcases h with h | h
        · exact h
        · rw [hlj] at h; cases h
      have g2 := op_before hoj (hfree j oj hoj hji hjun hnot) (fun cs b => hsel i oi cs b hi) (fun cs b => hsel j oj cs b hoj) hQ (fun _ w' h => hext w' h.1) hy g1
      have hfree' : ∀ k ok, ops[k]? = some ok → k ≠ i → (listed.setIfInBounds j true).getD k true = false → (∀ e ∈ ok.after, Region.binds .any e = true → e.on ≠ i) → oi.apart ops ok = true := by
        intro k ok hk hki hun hno
        refine hfree k ok hk hki ?_ hno
        by_cases hjk : j = k
        · subst hjk; exact hjun
        · rw [getD_set_ne true hjk] at hun; exact hun
      have hsub' : ∀ k, (listed.setIfInBounds j true).getD k false = true → M k = true := by
        intro k hk
        by_cases hjk : j = k
        · subst hjk; exact hMj
        · rw [getD_set_ne false hjk] at hk; exact hsub k hk
      refine wpOp_mono (fun a' w' g3 => ⟨g3.2.1, ih (listed.setIfInBounds j true) a' w' hfree' hsub' (ready_mono hr (Ne.symm hji)) g3.1 ?_⟩) g2
      rw [Array.setIfInBounds_comm _ _ hji]
      exact g3.2.2

/-- Without i no late operation can come: M has all that can. -/
def closedB (ops : Array Oper) (late M : List Nat) (i : Nat) : Bool :=
  (List.range ops.size).all fun j => j == i || match ops[j]? with
    | some oj => (oj.after.any fun e => Region.binds .any e && !M.contains e.on) || (M.contains j && !late.contains j)
    | none => true
def subB (listed : Array Bool) (M : List Nat) : Bool := (List.range listed.size).all fun k => !listed.getD k false || M.contains k

theorem closed_spec {late M : List Nat} {i : Nat} (h : closedB ops late M i = true) (j : Nat) (oj : Oper) (hj : ops[j]? = some oj) (hne : j ≠ i) (he : ∀ e ∈ oj.after, Region.binds .any e = true → M.contains e.on = true) :
    M.contains j = true ∧ late.contains j = false := by
  simp only [closedB, List.all_eq_true, List.mem_range] at h
  have h1 := h j (Array.getElem?_eq_some_iff.1 hj).1
  simp only [hj, Bool.or_eq_true, beq_iff_eq, hne, false_or] at h1
  rcases h1 with h1 | h1
  · obtain ⟨e, h2, h3⟩ := Array.any_eq_true'.1 h1
    simp only [Bool.and_eq_true, Bool.not_eq_true'] at h3
    rw [he e h2 h3.1] at h3
    cases h3.2
  · simp only [Bool.and_eq_true, Bool.not_eq_true'] at h1
    exact h1

theorem sub_spec {listed : Array Bool} {M : List Nat} (h : subB listed M = true) (k : Nat) (hk : listed.getD k false = true) : M.contains k = true := by
  simp only [subB, List.all_eq_true, List.mem_range, Bool.or_eq_true, Bool.not_eq_true'] at h
  rcases Nat.lt_or_ge k listed.size with h1 | h1
  · rcases h k h1 with h2 | h2
    · rw [hk] at h2; cases h2
    · exact h2
  · simp [Array.getD, Nat.not_lt.2 h1] at hk
end

def VL (late : List Nat) (P : Program) (C : Ctx) (ops : Array Oper) (n : Nat) (listed : Array Bool) (K : St → Prop) (s : St) : Prop := ∀ m a w, SimM C s m a w → anyL late P ops (post0 C K) n listed a w

section
variable {late : List Nat} {P : Program} {C : Ctx} {ops : Array Oper} {K : St → Prop} {s : St} {n : Nat} {listed : Array Bool}

theorem vc_drawL (late : List Nat) {id : Nat} {Q : Go.Exit → St → Prop} (hd : Region.departs ops = false) (h : VL late P C ops ops.size (Array.replicate ops.size false) (Q .normal) s) : VC P C (.region id ops true) Q s := by
  intro a w ⟨m, hs⟩
  refine wp_region_draw fun t => ?_
  simp only [Region.schedule, hd, Bool.not_false, Bool.or_true, if_true]
  refine wpOps_monoQ (Q := post0 C (Q .normal)) ?_ _ _ _ (wpAny_sound ops.size t _ a _ (any_of_anyL _ _ _ _ (h m a _ (hs.grow (w' := { w with drawn := w.drawn + 1 }) (ExtW.refl w) rfl rfl rfl))))
  rintro e a' w' ⟨rfl, s', hs', hk⟩
  exact ⟨s', hs', hk⟩

theorem vl_light (i : Nat) (M : List Nat) {o : Oper} {t : Nat} {sv : SV} (hi : ops[i]? = some o) (hd : o.dst = some t) (ht : Nat.blt t s.n = true) (hr : (Region.ready .any ops listed).contains i = true) (hns : Region.noSelect ops = true)
    (hf : Region.free .any ops listed i = true) (hM : closedB ops late M i = true) (hsub : subB listed M = true) (hw : Wnt C ops s o true) (hl : Lt P C s { o with guard := none } sv) (next : VL late P C ops n (listed.setIfInBounds i true) K (s.put t sv)) : VL late P C ops (n + 1) listed K s := by
  intro m a w hs
  obtain ⟨v, hrun, hv⟩ := hl m a w hs
  refine anyL_first (M := M.contains) hi (Region.noSelect_spec hns) post0_panic (fun j oj hj hne he => closed_spec hM j oj hj hne he) n listed a w (Region.free_spec hi hf) (sub_spec hsub) (by simpa using hr) (.inl ⟨hw m a w hs, hrun⟩) ?_
  rw [hd]
  exact next m _ _ (hs.put (blt_lt ht) hv)

theorem vl_nil (hr : Region.ready .any ops listed = []) (h : K s) : VL late P C ops n listed K s := by
  intro m a w hs
  have hq : post0 C K .normal a w := ⟨rfl, s, ⟨m, hs⟩, h⟩
  cases n with
  | zero => exact ⟨hr, hq⟩
  | succ n => exact ⟨fun _ => hq, by rw [hr]; simp⟩

theorem wp_mono2 {Q Q' : Go.Exit → Act → World → Prop} {K K' : Act → World → Prop} (hq : ∀ e a w, e ≠ .normal → Q e a w → Q' e a w) (hk : ∀ a w, K a w → K' a w) {o : Oper} {a : Act} {w : World} (h : o.wp P a w K Q) : o.wp P a w K' Q' := by
  unfold Oper.wp at *
  generalize (execOp a.eval o).run P w = r at *
  cases r with
  | ok x w' =>
    cases x with
    | value u => exact hk _ _ h
    | skip => exact hk _ _ h
    | defer d => exact hk _ _ h
    | enter f args =>
      simp only [Oper.upon] at h ⊢
      refine h.mono fun e w'' he => ?_
      cases e with
      | returned u => exact hk _ _ he
      | panicked c => exact hq _ _ _ (by simp) he
      | outgrown => obtain ⟨a3, w3, h3⟩ := he; exact ⟨a3, w3, hq _ _ _ (by simp) h3⟩
    | row row args => exact Rows.mono h fun u w'' he => hk _ _ he
    | _ => exact h
  | halt x w' =>
    cases x with
    | panic v => exact hq _ _ _ (by simp) h
    | _ => exact h

/-- An operation when nothing else can come. -/
theorem vl_one (i : Nat) {o : Oper} (hi : ops[i]? = some o) (hr : Region.ready .any ops listed = [i]) (hlate : late.contains i = true)
    (h : VO P C ops [o] (fun e s' => e = .normal ∧ VL late P C ops n (listed.setIfInBounds i true) K s') s) : VL late P C ops (n + 1) listed K s := by
  intro m a w hs
  refine ⟨fun h0 => (by rw [hr] at h0; cases h0), fun j hj => ?_⟩
  rw [hr] at hj
  simp at hj
  subst hj
  have h1 := h a w ⟨m, hs⟩
  have hfin : ∀ a' w', wpList P ops (post C (fun e s' => e = .normal ∧ VL late P C ops n (listed.setIfInBounds j true) K s')) [] a' w' → (ExtW w w' ∨ late.contains j = true) ∧ anyL late P ops (post0 C K) n (listed.setIfInBounds j true) a' w' := by
    rintro a' w' ⟨s', ⟨m', hs'⟩, _, h2⟩
    exact ⟨.inr hlate, h2 m' a' w' hs'⟩
  have hpost : ∀ e a' w', e ≠ .normal → post C (fun e s' => e = .normal ∧ VL late P C ops n (listed.setIfInBounds j true) K s') e a' w' → post0 C K e a' w' := by
    rintro e a' w' hne ⟨s', _, h2, _⟩
    exact absurd h2 hne
  unfold wpOp
  simp only [hi]
  unfold wpList at h1
  by_cases hw : Region.wanted o (yielded ops a.tmps) = true
  · rw [if_pos hw] at h1 ⊢
    rcases h1 with h1 | ⟨h1, a2, w2, h2⟩
    · exact .inl (wp_mono2 hpost hfin h1)
    · exact .inr ⟨h1, a2, w2, hpost _ _ _ (by simp) h2⟩
  · rw [if_neg hw] at h1 ⊢
    exact hfin _ _ h1

theorem vl_st {s' : St} (h : s = s') (next : VL late P C ops n listed K s') : VL late P C ops n listed K s := by rw [h]; exact next
theorem vo_done {Q : Go.Exit → St → Prop} (h : Q .normal s) : VO P C ops [] Q s := vo_nil h
end
end Go.Vl


/- '==' on structs of two numbers. -/
namespace Go.Vl
set_option linter.unusedVariables false
set_option linter.unusedSimpArgs false
open Go.RowKit

/-- Structs of two numbers are compared number by number. -/
def EqI2 (P : Program) (T : TypeId) : Prop :=
  (∀ (x y x' y' : Int) (w : World), (Op.equalIn 10000 T (.agg #[.int .i64 x, .int .i64 y]) (.agg #[.int .i64 x', .int .i64 y'])).run P w = .ok (x == x' && y == y') w) ∧ P.eqGuardType P.depth T = false

section
variable {P : Program} {C : Ctx} {Q : Go.Exit → St → Prop} {s : St} {ops : Array Oper} {rest : List Oper} {t : Nat} {ty : TypeId} {pos : String} {af : Array Edge}

end
end Go.Vl


/- Operations that make new memory, in a statement whose order of evaluation is open. -/
namespace Go.Vl
set_option linter.unusedVariables false
set_option linter.unusedSimpArgs false
open Go.RowKit

/-- The operation hands back a value, and all that was there is there as it was. -/
def Xt (P : Program) (C : Ctx) (s : St) (o : Oper) (s1 : St) (sv : SV) : Prop :=
  ∀ m a w, SimM C s m a w → ∃ v w' m', (execOp a.eval o).run P w = .ok (.value v) w' ∧ SimM C s1 m' a w' ∧ RS w' (Gd C s1.rows m' w') m' s1.rows.length sv v ∧ ExtW w w'

section
variable {late : List Nat} {P : Program} {C : Ctx} {ops : Array Oper} {K : St → Prop} {s s1 : St} {n : Nat} {listed : Array Bool}

end
section
variable {P : Program} {C : Ctx} {s : St} {t : Nat} {ty : TypeId} {pos : String} {af : Array Edge}

end
end Go.Vl


/- Side conditions and plain states, by a tactic that the rule itself carries. -/
namespace Go.Vl
set_option linter.unusedVariables false
set_option linter.unusedSimpArgs false
open Go.RowKit

/-- A side condition. -/
theorem sd {p : Prop} (h : p := by first | omega | (simp only [List.length_map] <;> omega) | (simp only [List.length_map, List.length_set, List.length_append, List.length_cons, List.length_nil, List.length_replicate, List.length_take, List.length_drop] <;> omega) | (simp <;> omega) | (constructor <;> (first | omega | (simp <;> omega))) | (refine ⟨?_, ?_, ?_, ?_⟩ <;> omega) | exact ⟨xorI_nonneg _ _, by omega⟩ | decide) : p := h

section
variable {late : List Nat} {P : Program} {C : Ctx} {Q : Go.Exit → St → Prop} {K : St → Prop} {s s' : St} {ops : Array Oper} {n : Nat} {listed : Array Bool}
theorem vc_stN {code : Code} (next : VC P C code Q s') (h : s = s' := by (try simp only [St.put, exposeE, killE, SV.expose, SV.kill, Row.expose, Row.kill, rowsAfter_nil, rowsAfter_one, packS, SV.shift, placeOf, enumE, List.zip_cons_cons, List.zip_nil_right, List.map_cons, List.map_nil, List.set_cons_zero, List.set_cons_succ, List.length_cons, List.length_nil, List.cons_append, List.nil_append, List.drop_succ_cons, List.drop_zero, List.drop_nil, List.take_succ_cons, List.take_zero, List.take_nil, List.getElem?_cons_zero, List.getElem?_cons_succ, List.getElem?_nil, Option.getD_some, Option.getD_none, Option.map_some, Option.map_none, Nat.reduceAdd, Nat.reduceSub, Nat.reduceEqDiff, Nat.zero_add, Bool.true_or, PV.scal, Bool.or_false, Bool.or_true, Bool.false_or, Bool.and_true, Bool.and_false, Bool.true_and, reduceIte, reduceCtorEq]); exact eq_refl _) : VC P C code Q s := vc_st h next
end
end Go.Vl


/- A call whose function's code is gone through in its place: the caller's slots wait in a row of their own. -/
namespace Go.Vl
set_option linter.unusedVariables false
set_option linter.unusedSimpArgs false
open Go.RowKit

/-- What a result holds at a function's end. -/
def resG (s : St) : Nat × Option (Nat × Nat) → SV
  | (t, none) => look s.env t
  | (a, some _) => match look s.env a with
    | .ptr id 0 0 0 => match s.rows[id]? with
      | some (.var _ cs) => match collectC cs with
        | some (f, ps) => .pv f (.agg ps)
        | none => .ag cs
      | _ => .any
    | _ => .any

/-- Is the result there? -/
def resGOK (s : St) : Nat × Option (Nat × Nat) → Bool
  | (_, none) => true
  | (a, some (_, n)) => match look s.env a with
    | .ptr id 0 0 0 => match s.rows[id]? with
      | some (.var _ cs) => Nat.beq cs.length n
      | _ => false
    | _ => false

def inQ (us : List Value) (i : Nat) (L : List Nat) (rs : List (Nat × Option (Nat × Nat))) (n t : Nat) (K : St → Prop) (e : Go.Exit) (s' : St) : Prop :=
  (e = .normal ∨ e = .ret) ∧ ∃ cs', s'.rows[i]? = some (.gh us cs') ∧ rs.all (resGOK s') = true ∧ K ⟨n, (t, packS (rs.map (resG s'))) :: L.zip cs', s'.rows.set i .dead⟩

section
variable {P : Program} {C : Ctx} {Q : Go.Exit → St → Prop} {s : St}

theorem run_resG1 {m : Nat → MV} {a : Act} {w : World} (h : SimM C s m a w) {r : Nat × Option (Nat × Nat)} (hT : resT P r) (hok : resGOK s r = true) :
    ∃ v, (resM a.tmps (resVar r)).run P w = .ok v w ∧ RS w (Gd C s.rows m w) m s.rows.length (resG s r) v := by
  obtain ⟨t, _ | ⟨T, n⟩⟩ := r
  · exact ⟨_, rfl, h.env t⟩
  · obtain ⟨D, inf, hu, hD, hinf, hsz⟩ := hT
    simp only [resGOK] at hok
    split at hok
    · rename_i id hid
      split at hok
      · rename_i R cs hrow
        have hl := Nat.eq_of_beq_eq_true hok
        have hg : getO s.env (.tmp t) = .ptr id 0 0 0 := hid
        obtain ⟨b, cur, hv, _, hbk, hcl, hr, h1⟩ := h.var hg hrow
        have hv2 : a.tmps.getD t undef = .pointer (some ⟨b, 0, none⟩) := hv
        refine ⟨.agg cur, ?_, ?_⟩
        · have e := run_loadAt_mid (P := P) w b 0 T cur.toList D (fun j v hj => by
            rw [cell_of_row w b _ cur R (0, 0) hbk]; simpa using hj) hu hD (by rw [hinf]; simp [hsz, hcl, hl])
          simp only [resVar, resM, hv2]
          simpa [Instr.loadAt, Instr.sureAddr, asAddr] using e
        · simp only [resG, hid, hrow]
          split
          · rename_i f ps hcc
            obtain ⟨c1, c2⟩ := collectC_get hcc
            refine .pv _ _ _ (.agg ps cur (by rw [hcl, c1]) (fun j p hp => ?_) (fun j p u hp hu => ?_))
            · obtain ⟨g, h3, _⟩ := c2 j p hp
              have hlt : j < cur.size := by rw [hcl]; exact (List.getElem?_eq_some_iff.1 h3).1
              have hu := Array.getElem?_eq_getElem hlt
              exact (hr _ _ _ h3 hu).pv_inv.notAgg (h1 _ _ hu)
            · obtain ⟨g, h3, h4⟩ := c2 j p hp
              exact RP.flag (G := Gd C s.rows m w) (fun b hb => hb.weak) (hr _ _ _ h3 hu).pv_inv h4
          · exact .ag cs cur hcl hr h1
      · cases hok
    · cases hok

theorem run_resGA {m : Nat → MV} {a : Act} {w : World} (h : SimM C s m a w) {fn : Func} {rs : List (Nat × Option (Nat × Nat))} (hr : fn.results = (rs.map resVar).toArray) (hl : rs.length ≤ 5)
    (hT : ∀ r ∈ rs, resT P r) (hok : rs.all (resGOK s) = true) :
    ∃ us : Array Value, (results fn a.tmps).run P w = .ok (pack us) w ∧ us.size = rs.length ∧ ∀ (j : Nat) (r : Nat × Option (Nat × Nat)), rs[j]? = some r → RS w (Gd C s.rows m w) m s.rows.length (resG s r) (us.getD j undef) := by
  rw [results_eq, hr]
  rw [List.all_eq_true] at hok
  match rs, hl with
  | [], _ => exact ⟨#[], by simp [pack], rfl, fun j r hr => by simp at hr⟩
  | [r1], _ =>
    obtain ⟨v1, h1, k1⟩ := run_resG1 (P := P) h (hT r1 (by simp)) (hok r1 (by simp))
    refine ⟨#[v1], by simp [h1, pack], rfl, fun j r hr => ?_⟩
    match j, hr with
    | 0, hr => cases hr; exact k1
  | [r1, r2], _ =>
    obtain ⟨v1, h1, k1⟩ := run_resG1 (P := P) h (hT r1 (by simp)) (hok r1 (by simp))
    obtain ⟨v2, h2, k2⟩ := run_resG1 (P := P) h (hT r2 (by simp)) (hok r2 (by simp))
    refine ⟨#[v1, v2], by simp [h1, h2, pack], rfl, fun j r hr => ?_⟩
    match j, hr with
    | 0, hr => cases hr; exact k1
    | 1, hr => cases hr; exact k2
  | [r1, r2, r3], _ =>
    obtain ⟨v1, h1, k1⟩ := run_resG1 (P := P) h (hT r1 (by simp)) (hok r1 (by simp))
    obtain ⟨v2, h2, k2⟩ := run_resG1 (P := P) h (hT r2 (by simp)) (hok r2 (by simp))
    obtain ⟨v3, h3, k3⟩ := run_resG1 (P := P) h (hT r3 (by simp)) (hok r3 (by simp))
    refine ⟨#[v1, v2, v3], by simp [h1, h2, h3, pack], rfl, fun j r hr => ?_⟩
    match j, hr with
    | 0, hr => cases hr; exact k1
    | 1, hr => cases hr; exact k2
    | 2, hr => cases hr; exact k3
  | [r1, r2, r3, r4], _ =>
    obtain ⟨v1, h1, k1⟩ := run_resG1 (P := P) h (hT r1 (by simp)) (hok r1 (by simp))
    obtain ⟨v2, h2, k2⟩ := run_resG1 (P := P) h (hT r2 (by simp)) (hok r2 (by simp))
    obtain ⟨v3, h3, k3⟩ := run_resG1 (P := P) h (hT r3 (by simp)) (hok r3 (by simp))
    obtain ⟨v4, h4, k4⟩ := run_resG1 (P := P) h (hT r4 (by simp)) (hok r4 (by simp))
    refine ⟨#[v1, v2, v3, v4], by simp [h1, h2, h3, h4, pack], rfl, fun j r hr => ?_⟩
    match j, hr with
    | 0, hr => cases hr; exact k1
    | 1, hr => cases hr; exact k2
    | 2, hr => cases hr; exact k3
    | 3, hr => cases hr; exact k4
  | [r1, r2, r3, r4, r5], _ =>
    obtain ⟨v1, h1, k1⟩ := run_resG1 (P := P) h (hT r1 (by simp)) (hok r1 (by simp))
    obtain ⟨v2, h2, k2⟩ := run_resG1 (P := P) h (hT r2 (by simp)) (hok r2 (by simp))
    obtain ⟨v3, h3, k3⟩ := run_resG1 (P := P) h (hT r3 (by simp)) (hok r3 (by simp))
    obtain ⟨v4, h4, k4⟩ := run_resG1 (P := P) h (hT r4 (by simp)) (hok r4 (by simp))
    obtain ⟨v5, h5, k5⟩ := run_resG1 (P := P) h (hT r5 (by simp)) (hok r5 (by simp))
    refine ⟨#[v1, v2, v3, v4, v5], by simp [h1, h2, h3, h4, h5, pack], rfl, fun j r hr => ?_⟩
    match j, hr with
    | 0, hr => cases hr; exact k1
    | 1, hr => cases hr; exact k2
    | 2, hr => cases hr; exact k3
    | 3, hr => cases hr; exact k4
    | 4, hr => cases hr; exact k5

end
end Go.Vl


/- '!=' on structs of two numbers. -/
namespace Go.Vl
set_option linter.unusedVariables false
set_option linter.unusedSimpArgs false
open Go.RowKit

section
variable {P : Program} {C : Ctx} {Q : Go.Exit → St → Prop} {s : St} {ops : Array Oper} {rest : List Oper} {t : Nat} {ty : TypeId} {pos : String} {af : Array Edge}

end
section
variable {P : Program}
end
end Go.Vl


/- What yields the same in every world may be taken first, whatever else comes. -/
namespace Go.Vl
set_option linter.unusedVariables false
set_option linter.unusedSimpArgs false
open Go.RowKit

section
variable {P : Program} {ops : Array Oper} {Q : Go.Exit → Act → World → Prop}

def yields0 (P : Program) (ops : Array Oper) (o : Oper) (v : Value) (a : Act) : Prop :=
  (Region.wanted o (yielded ops a.tmps) = true ∧ ∀ w, (execOp a.eval o).run P w = .ok (.value v) w) ∨ (Region.wanted o (yielded ops a.tmps) = false ∧ v = undef)

theorem yields0.step {o : Oper} {v : Value} {a a' : Act} (h : yields0 P ops o v a) (he : execOp a'.eval o = execOp a.eval o)
    (hw : Region.wanted o (yielded ops a'.tmps) = Region.wanted o (yielded ops a.tmps)) : yields0 P ops o v a' := by
  unfold yields0 at *
  rw [he, hw]
  exact h

theorem yields0.op {i : Nat} {o : Oper} {v : Value} {a : Act} {w : World} (hi : ops[i]? = some o) (hy : yields0 P ops o v a) {K : Act → World → Prop} (h : K (a.put o.dst v) w) : wpOp P ops Q i K a w := by
  unfold wpOp
  simp only [hi]
  rcases hy with ⟨hw, hv⟩ | ⟨hw, rfl⟩
  · simp only [hw, if_true, Oper.wp, hv w, Oper.upon]; exact .inl h
  · simp only [hw, Bool.false_eq_true, if_false]; exact h

theorem op_before0 {j : Nat} {oi oj : Oper} {v : Value} (hj : ops[j]? = some oj) (hap : oi.apart ops oj = true) (hsi : ∀ cs b, oi.op ≠ .select cs b) (hsj : ∀ cs b, oj.op ≠ .select cs b)
    (hQ : ∀ c a w, ¬ Q (.panic c) a w) {K : Act → World → Prop} {a : Act} {w : World} (hy : yields0 P ops oi v a) (h : wpOp P ops Q j K (a.put oi.dst v) w) :
    wpOp P ops Q j (fun a' w' => yields0 P ops oi v a' ∧ K (a'.put oi.dst v) w') a w := by
  obtain ⟨h1, h2, h3⟩ := Oper.apart_spec hap
  have keep : ∀ (u : Value), yields0 P ops oi v (a.put oj.dst u) := fun u => hy.step (execOp_put oi hsi a oj.dst u h3) (wanted_put oi a oj.dst u h3)
  have fin : ∀ (u : Value) (w' : World), K ((a.put oi.dst v).put oj.dst u) w' → yields0 P ops oi v (a.put oj.dst u) ∧ K ((a.put oj.dst u).put oi.dst v) w' := by
    intro u w' hk
    exact ⟨keep u, by rw [← Act.put_comm a v u h2]; exact hk⟩
  unfold wpOp at *
  simp only [hj] at *
  rw [wanted_put oj a oi.dst v h1] at h
  by_cases hw : Region.wanted oj (yielded ops a.tmps) = true
  · rw [if_pos hw] at h ⊢
    rcases h with h | ⟨hasks, hlets⟩
    · left
      unfold Oper.wp at *
      rw [execOp_put oj hsj a oi.dst v h1] at h
      generalize (execOp a.eval oj).run P w = r at *
      cases r with
      | ok n w' =>
        cases n with
        | value u => exact fin u w' h
        | skip => exact fin undef w' h
        | defer d =>
          simp only [Oper.upon] at h ⊢
          refine ⟨?_, by rw [← Act.put_comm _ v undef h2, ← Act.put_defers]; exact h⟩
          have hy1 : yields0 P ops oi v { a with defers := d :: a.defers } := hy.step rfl rfl
          exact hy1.step (execOp_put oi hsi _ oj.dst undef h3) (wanted_put oi _ oj.dst undef h3)
        | enter f args =>
          simp only [Oper.upon] at h ⊢
          refine h.mono fun e w'' he => ?_
          cases e with
          | returned u => exact fin u w'' he
          | panicked c => exact (hQ _ _ _ he).elim
          | outgrown => exact he
        | row row args => exact Rows.mono h fun u w'' he => fin u w'' he
        | _ => exact h
      | halt x w' =>
        cases x <;> simp only [Oper.upon] at h ⊢
        exact (hQ _ _ _ h).elim
    · right
      refine ⟨?_, hlets⟩
      unfold Oper.asks at *
      rw [execOp_put oj hsj a oi.dst v h1] at hasks
      exact hasks
  · rw [if_neg hw] at h ⊢
    exact fin undef w h

theorem anyL_first0 {late : List Nat} {i : Nat} {oi : Oper} {v : Value} (hi : ops[i]? = some oi) (hsel : ∀ (j : Nat) (o : Oper) cs b, ops[j]? = some o → o.op ≠ .select cs b) (hQ : ∀ c a w, ¬ Q (.panic c) a w) :
    ∀ (n : Nat) (listed : Array Bool) (a : Act) (w : World),
      (∀ j oj, ops[j]? = some oj → j ≠ i → listed.getD j true = false → (∀ e ∈ oj.after, Region.binds .any e = true → e.on ≠ i) → oi.apart ops oj = true) →
      i ∈ Region.ready .any ops listed → yields0 P ops oi v a → anyL late P ops Q n (listed.setIfInBounds i true) (a.put oi.dst v) w → anyL late P ops Q (n + 1) listed a w := by
  intro n
  induction n with
  | zero =>
    intro listed a w _ hr hy H
    refine ⟨fun h => (by rw [h] at hr; cases hr), fun j hj => ?_⟩
    by_cases hji : j = i
    · subst hji; exact hy.op hi ⟨.inl (ExtW.refl w), H⟩
    · have := ready_mono hj hji
      rw [H.1] at this
      cases this
  | succ n ih =>
    intro listed a w hfree hr hy H
    refine ⟨fun h => (by rw [h] at hr; cases hr), fun j hj => ?_⟩
    by_cases hji : j = i
    · subst hji; exact hy.op hi ⟨.inl (ExtW.refl w), H⟩
    · have g1 := H.2 j (ready_mono hj hji)
      obtain ⟨hjun, oj, hoj, hall⟩ := mem_ready.1 hj
      have hnot : ∀ e ∈ oj.after, Region.binds .any e = true → e.on ≠ i := by
        intro e he hb heq
        have l1 := hall e he hb
        have l0 := (mem_ready.1 hr).1
        rw [heq] at l1
        rcases Nat.lt_or_ge i listed.size with h' | h'
        · simp [h'] at l0 l1
          rw [l0] at l1
          cases l1
        · simp [Array.getElem?_eq_none h'] at l1
      have g2 := op_before0 hoj (hfree j oj hoj hji hjun hnot) (fun cs b => hsel i oi cs b hi) (fun cs b => hsel j oj cs b hoj) hQ hy g1
      have hfree' : ∀ k ok, ops[k]? = some ok → k ≠ i → (listed.setIfInBounds j true).getD k true = false → (∀ e ∈ ok.after, Region.binds .any e = true → e.on ≠ i) → oi.apart ops ok = true := by
        intro k ok hk hki hun hno
        refine hfree k ok hk hki ?_ hno
        by_cases hjk : j = k
        · subst hjk; exact hjun
        · rw [getD_set_ne true hjk] at hun; exact hun
      refine wpOp_mono (fun a' w' g3 => ⟨g3.2.1, ih (listed.setIfInBounds j true) a' w' hfree' (ready_mono hr (Ne.symm hji)) g3.1 ?_⟩) g2
      rw [Array.setIfInBounds_comm _ _ hji]
      exact g3.2.2
end

/-- The operation hands back a value that no world changes. -/
def Lt0 (P : Program) (C : Ctx) (s : St) (o : Oper) (sv : SV) : Prop :=
  ∀ m a w, SimM C s m a w → ∃ v, (∀ w', (execOp a.eval o).run P w' = .ok (.value v) w') ∧ RS w (Gd C s.rows m w) m s.rows.length sv v

section
variable {late : List Nat} {P : Program} {C : Ctx} {ops : Array Oper} {K : St → Prop} {s : St} {n : Nat} {listed : Array Bool} {t : Nat} {ty : TypeId} {pos : String} {af : Array Edge}

theorem l0_move {x : Operand} : Lt0 P C s ⟨some t, .move x, ty, pos, af, none⟩ (getO s.env x) := fun m a w hs => ⟨a.eval x, fun _ => rfl, hs.get x⟩
theorem l0_move_ref {x : Operand} {id : Nat} (hx : getO s.env x = .ref id) : Lt0 P C s ⟨some t, .move x, ty, pos, af, none⟩ (.ref id) := by rw [← hx]; exact l0_move
theorem vl_light0 (i : Nat) {o : Oper} {t : Nat} {sv : SV} (hi : ops[i]? = some o) (hd : o.dst = some t) (ht : Nat.blt t s.n = true) (hr : (Region.ready .any ops listed).contains i = true) (hns : Region.noSelect ops = true)
    (hf : Region.free .any ops listed i = true) (hw : Wnt C ops s o true) (hl : Lt0 P C s { o with guard := none } sv) (next : VL late P C ops n (listed.setIfInBounds i true) K (s.put t sv)) : VL late P C ops (n + 1) listed K s := by
  intro m a w hs
  obtain ⟨v, hrun, hv⟩ := hl m a w hs
  refine anyL_first0 hi (Region.noSelect_spec hns) post0_panic n listed a w (Region.free_spec hi hf) (by simpa using hr) (.inl ⟨hw m a w hs, hrun⟩) ?_
  rw [hd]
  exact next m _ _ (hs.put (blt_lt ht) hv)
end
end Go.Vl


/- A row that holds numbers alone points nowhere. -/
namespace Go.Vl
set_option linter.unusedVariables false
set_option linter.unusedSimpArgs false
open Go.RowKit

theorem clean_row {w : World} {G G' : Bool → Nat → Prop} {m m' : Nat → MV} {N N' : Nat} {mv : MV} {t : TypeId} {e : Nat} {nl : Option Bool} {f : Bool} {xs : List PV} (h : RowOK w G m N mv (.own t e nl f xs)) (hp : ∀ x ∈ xs, ∀ c ∈ x.cells, c.scal = true) :
    RowOK w G' m' N' mv (.own t e nl true xs) := by
  cases h with
  | own v t e nl f xs vs hown h1 h2 hw hr =>
    refine .own v t e nl true xs vs hown h1 h2 hw fun i x j c hx hc => ?_
    obtain ⟨u, hu, hq⟩ := hr i x j c hx hc
    exact ⟨u, hu, hq.scal_any (hp x (List.mem_of_getElem? hx) c (List.mem_of_getElem? hc))⟩

section
variable {P : Program} {C : Ctx} {Q : Go.Exit → St → Prop} {s : St} {ops : Array Oper}

theorem SimM.clean {m : Nat → MV} {a : Act} {w : World} (hs : SimM C s m a w) (id : Nat) {el e : Nat} {nl : Option Bool} {f : Bool} {xs : List PV} (hrow : s.rows[id]? = some (.own el e nl f xs)) (hp : ∀ x ∈ xs, ∀ c ∈ x.cells, c.scal = true) :
    SimM C ⟨s.n, s.env, s.rows.set id (.own el e nl true xs)⟩ m a w :=
  hs.storeRow (w' := w) (bo := none) ⟨_, hrow, rfl⟩ (fun _ e => by cases e) ⟨rfl, rfl, rfl, Nat.le_refl _, fun _ _ _ => rfl⟩ _ (fun hG => clean_row (hs.rows id _ hrow) hp)

theorem vo_clean {l : List Oper} (id : Nat) {el e : Nat} {nl : Option Bool} {f : Bool} {xs : List PV} (hrow : s.rows[id]? = some (.own el e nl f xs)) (hp : ∀ x ∈ xs, ∀ c ∈ x.cells, c.scal = true)
    (next : VO P C ops l Q ⟨s.n, s.env, s.rows.set id (.own el e nl true xs)⟩) : VO P C ops l Q s := fun a w ⟨m, hs⟩ => next a w ⟨m, hs.clean id hrow hp⟩
end
end Go.Vl


/- Statements at which two orders of evaluation are known: what holds in whatever order holds in both. -/
namespace Go.Vl
set_option linter.unusedVariables false
set_option linter.unusedSimpArgs false
open Go.RowKit

section
variable {P : Program} {ops : Array Oper} {Q : Go.Exit → Act → World → Prop}

/-- An order in which all can come. -/
def orderB (md : Region.Mode) (ops : Array Oper) : List Nat → List Nat → Bool
  | seen, [] => (List.range ops.size).all fun j => seen.contains j
  | seen, i :: r => (match ops[i]? with
    | some o => o.after.all fun e => !Region.binds md e || seen.contains e.on
    | none => true) && orderB md ops (i :: seen) r

end

end Go.Vl


/- Elements of several cells in a row of the call's own: one cell of them, or a part that is a struct, is read. -/
namespace Go.Vl
set_option linter.unusedVariables false
set_option linter.unusedSimpArgs false
open Go.RowKit

section
variable {P : Program} {C : Ctx} {Q : Go.Exit → St → Prop} {s : St} {ops : Array Oper} {rest : List Oper} {t : Nat} {ty : TypeId} {pos : String} {af : Array Edge}

end
end Go.Vl


/- A row takes another one in and may move: 'append' of a slice that is the program's own to a row whose slices are its own. -/
namespace Go.Vl
set_option linter.unusedVariables false
set_option linter.unusedSimpArgs false
open Go.RowKit

end Go.Vl


/- Rows whose slices are their own: a slice literal of one such slice, and 'append'. -/
namespace Go.Vl
set_option linter.unusedVariables false
set_option linter.unusedSimpArgs false
open Go.RowKit

section
variable {P : Program} {C : Ctx} {Q : Go.Exit → St → Prop} {s : St} {ops : Array Oper} {rest : List Oper} {t : Nat} {ty : TypeId} {pos : String} {af : Array Edge}

end
end Go.Vl


/- A row whose slices are its own becomes a row of slices that are read alone. -/
namespace Go.Vl
set_option linter.unusedVariables false
set_option linter.unusedSimpArgs false
open Go.RowKit
section
variable {P : Program} {C : Ctx} {Q : Go.Exit → St → Prop} {s : St} {ops : Array Oper}

end
end Go.Vl


/- Structs whose cells are rows of the call's own: built, boxed, read, written. -/
namespace Go.Vl
set_option linter.unusedVariables false
set_option linter.unusedSimpArgs false
open Go.RowKit

def cellsG : SV → Option (List SV)
  | .ag ys => some ys
  | .pv f p => some (p.cells.map fun c => .pv (f || c.scal) c)
  | .ref id => some [.ref id]
  | .ptr id e i o => some [.ptr id e i o]
  | _ => none

def okG (rows : List Row) : SV → Bool
  | .ref id => match rows[id]? with
    | some r => r.live
    | none => false
  | _ => true

section
variable {P : Program} {C : Ctx} {Q : Go.Exit → St → Prop} {s : St}
variable {ops : Array Oper} {rest : List Oper} {t : Nat} {ty : TypeId} {pos : String} {af : Array Edge}

theorem row_one {w : World} {G : Bool → Nat → Prop} {m : Nat → MV} {N : Nat} {mv : MV} {r : Row} (h : RowOK w G m N mv r) (hl : r.live = true) : mv.v.oneCell' = true := by
  cases h with
  | dead => cases hl
  | gh => cases hl
  | own v t e nl fr xs vs hown => rcases hown.2 with ⟨rfl, _⟩ | ⟨g, cap, cur, rfl, _⟩ <;> rfl
  | var => rfl
  | mp => rfl
  | tree mv t e nl h xs vals Sf hown => rcases hown.2 with ⟨h, _⟩ | ⟨g, cap, cur, h, _⟩ <;> rw [h] <;> rfl

theorem cells_one {v : Value} (h : v.oneCell' = true) : v.cells = #[v] := by cases v <;> simp_all [Value.cells, Value.oneCell']

theorem SimM.cellsG {m : Nat → MV} {a : Act} {w : World} (h : SimM C s m a w) {x : Operand} {ys : List SV} (hy : cellsG (getO s.env x) = some ys) (hok : okG s.rows (getO s.env x) = true) :
    (a.eval x).cells.size = ys.length ∧ (∀ (j : Nat) (c : SV) (u : Value), ys[j]? = some c → (a.eval x).cells[j]? = some u → RS w (Gd C s.rows m w) m s.rows.length c u) ∧
      (∀ (j : Nat) (u : Value), (a.eval x).cells[j]? = some u → u.oneCell' = true) := by
  have hv := h.get x
  have one : ∀ (sv : SV) (v : Value), RS w (Gd C s.rows m w) m s.rows.length sv v → v.oneCell' = true → ys = [sv] →
      v.cells.size = ys.length ∧ (∀ (j : Nat) (c : SV) (u : Value), ys[j]? = some c → v.cells[j]? = some u → RS w (Gd C s.rows m w) m s.rows.length c u) ∧ (∀ (j : Nat) (u : Value), v.cells[j]? = some u → u.oneCell' = true) := by
    intro sv v hr h1 e
    subst e
    rw [cells_one h1]
    refine ⟨rfl, fun j c u hc hu => ?_, fun j u hu => ?_⟩
    · match j, hc, hu with
      | 0, hc, hu => simp at hc hu; subst hc; subst hu; exact hr
    · match j, hu with
      | 0, hu => simp at hu; subst hu; exact h1
  generalize getO s.env x = sv at *
  generalize a.eval x = v at *
  cases hv with
  | any => cases hy
  | val => cases hy
  | und => cases hy
  | adr => cases hy
  | tup => cases hy
  | sub => cases hy
  | ag vs us hl h9 h1 => cases hy; exact ⟨hl, h9, h1⟩
  | ref id hid =>
    simp only [Vl.cellsG, Option.some.injEq] at hy
    simp only [okG] at hok
    split at hok
    · rename_i r hr
      exact one _ _ (.ref id hid) (row_one (h.rows id r hr) hok) hy.symm
    · cases hok
  | ptr id e i o b hid hb =>
    simp only [Vl.cellsG, Option.some.injEq] at hy
    exact one _ _ (.ptr id e i o b hid hb) rfl hy.symm
  | pv fr p v hp =>
    simp only [Vl.cellsG, Option.some.injEq] at hy
    subst hy
    have hc := hp.cells
    refine ⟨by simpa using hc.1, fun j c u hcj hu => ?_, fun j u hu => ?_⟩
    · simp only [List.getElem?_map, Option.map_eq_some_iff] at hcj
      obtain ⟨c', hc', rfl⟩ := hcj
      obtain ⟨u', hu', hp'⟩ := hc.2 j c' hc'
      rw [hu] at hu'
      cases hu'
      cases hsc : c'.scal with
      | true => simp only [Bool.or_true]; exact .pv _ _ _ (hp'.scal_any hsc)
      | false => simp only [Bool.or_false]; exact .pv _ _ _ hp'
    · have hj : j < p.cells.length := by rw [← hc.1]; exact (Array.getElem?_eq_some_iff.1 hu).1
      obtain ⟨u', hu', hp'⟩ := hc.2 j _ (List.getElem?_eq_getElem hj)
      rw [hu] at hu'
      cases hu'
      refine hp'.oneCell ?_
      cases hp with
      | agg cs vs hl h1 h9 => exact h1 j _ (List.getElem?_eq_getElem hj)
      | _ => simp only [PV.cells] at hj ⊢; have : j = 0 := by simpa using hj
             subst this; rfl

def applyG (pl : List (Nat × Nat)) : List SV → List (Nat × List SV) → Option (List SV)
  | cs, [] => some cs
  | cs, (k, p) :: r => match pl[k]? with
    | some (off, sz) => bif Nat.beq p.length sz && Nat.ble (off + sz) cs.length then applyG pl (cs.take off ++ p ++ cs.drop (off + sz)) r else none
    | none => none

def collectG (env : List (Nat × SV)) (rows : List Row) : List (Nat × Operand) → Option (List (Nat × List SV))
  | [] => some []
  | (k, x) :: r => match cellsG (getO env x), collectG env rows r with
    | some ys, some ps => bif okG rows (getO env x) then some ((k, ys) :: ps) else none
    | _, _ => none

end
end Go.Vl


/- 'append' to a row whose cells' type is not known (it was taken out of another), and a tree's cell that is known. -/
namespace Go.Vl
set_option linter.unusedVariables false
set_option linter.unusedSimpArgs false
open Go.RowKit
section
variable {P : Program} {C : Ctx} {Q : Go.Exit → St → Prop} {s : St} {ops : Array Oper} {rest : List Oper} {t : Nat} {ty : TypeId} {pos : String} {af : Array Edge}

end
section
variable {late : List Nat} {P : Program} {C : Ctx} {ops : Array Oper} {K : St → Prop} {s s1 : St} {n : Nat} {listed : Array Bool}
def StepV (late : List Nat) (P : Program) (C : Ctx) (ops : Array Oper) (n : Nat) (listed : Array Bool) (K : St → Prop) (s : St) (i : Nat) : Prop :=
  ∀ m a w, SimM C s m a w → wpOp P ops (post0 C K) i (fun a' w' => (ExtW w w' ∨ late.contains i = true) ∧ anyL late P ops (post0 C K) n (listed.setIfInBounds i true) a' w') a w
end
end Go.Vl


/- Rows of structs whose slices are their own: an element's slices are taken out as rows, and put back. -/
namespace Go.Vl
set_option linter.unusedVariables false
set_option linter.unusedSimpArgs false
open Go.RowKit

def okTake : PV → Bool
  | .sl _ _ _ => true
  | c => c.scal

def takePV (c : PV) : PV := match c with
  | .sl _ _ _ => .gone
  | c => c

def takeP : PV → PV
  | .agg cs => .agg (cs.map takePV)
  | c => takePV c

def takeSV : Nat → List PV → List SV
  | _, [] => []
  | N, .sl _ _ _ :: cs => .ref N :: takeSV (N + 1) cs
  | N, c :: cs => .pv true c :: takeSV N cs

def takeRows (Rf : Nat → TypeId) : Nat → List PV → List Row
  | _, [] => []
  | k, .sl nl e xs :: cs => .tree (Rf k) e nl none xs :: takeRows Rf (k + 1) cs
  | k, _ :: cs => takeRows Rf k cs

/-- The places of the slices among cells. -/
def takePos : Nat → List PV → List Nat
  | _, [] => []
  | j, .sl _ _ _ :: cs => j :: takePos (j + 1) cs
  | j, _ :: cs => takePos (j + 1) cs

section
variable {P : Program} {C : Ctx} {Q : Go.Exit → St → Prop} {s : St} {ops : Array Oper} {rest : List Oper} {t : Nat} {ty : TypeId} {pos : String} {af : Array Edge}

end
end Go.Vl


/- An element's slices are put back into a row whose slices are its own; literals of such elements, and 'append'. -/
namespace Go.Vl
set_option linter.unusedVariables false
set_option linter.unusedSimpArgs false
open Go.RowKit

def deadAll (ks : List Nat) (rows : List Row) : List Row := ks.foldl (fun r k => r.set k .dead) rows

def refsOf : List SV → List Nat
  | [] => []
  | .ref k :: r => k :: refsOf r
  | _ :: r => refsOf r

/-- What goes into a cell. -/
def pvT (rows : List Row) : SV → Option PV
  | .pv _ c => bif c.scal then some c else none
  | .ref k => match rows[k]? with
    | some (.tree _ e nl none xs) => some (.sl nl e xs)
    | _ => none
  | _ => none

def pvTs (rows : List Row) : List SV → Option (List PV)
  | [] => some []
  | y :: ys => match pvT rows y, pvTs rows ys with
    | some p, some ps => some (p :: ps)
    | _, _ => none

/-- The blocks of a cell's own. -/
def sOf (m : Nat → MV) (ys : List SV) (j b : Nat) : Prop := ∃ k, ys[j]? = some (.ref k) ∧ (m k).S b

section
variable {P : Program} {C : Ctx} {Q : Go.Exit → St → Prop} {s : St} {ops : Array Oper} {rest : List Oper} {t : Nat} {ty : TypeId} {pos : String} {af : Array Edge}

end
end Go.Vl


/- Literals of elements whose slices are their own; 'append' of them; their plain cells. -/
namespace Go.Vl
set_option linter.unusedVariables false
set_option linter.unusedSimpArgs false
open Go.RowKit

section
variable {P : Program} {C : Ctx} {Q : Go.Exit → St → Prop} {s : St} {ops : Array Oper} {rest : List Oper} {t : Nat} {ty : TypeId} {pos : String} {af : Array Edge}

end
end Go.Vl


/- Maps from numbers to numbers that the call made itself. -/
namespace Go.Vl
set_option linter.unusedVariables false
set_option linter.unusedSimpArgs false
open Go.RowKit

def mapI (h : Int → Option Int) : Int → Option PV := fun k => (h k).map intP
def updI (h : Int → Option Int) (k v : Int) : Int → Option Int := fun j => if j = k then some v else h j
def delI (h : Int → Option Int) (k : Int) : Int → Option Int := fun j => if j = k then none else h j
def nilI : Int → Option Int := fun _ => none

section
variable {P : Program} {C : Ctx} {Q : Go.Exit → St → Prop} {s : St} {ops : Array Oper} {rest : List Oper} {t : Nat} {ty : TypeId} {pos : String} {af : Array Edge}

end
end Go.Vl


/- Parts of a slice of the call's own: 'append(x[:i], x[j:]...)', a slice cut shorter, 'clear' behind its end. -/
namespace Go.Vl
set_option linter.unusedVariables false
set_option linter.unusedSimpArgs false
open Go.RowKit

section
variable {P : Program} {C : Ctx} {Q : Go.Exit → St → Prop} {s : St} {ops : Array Oper} {rest : List Oper} {t : Nat} {ty : TypeId} {pos : String} {af : Array Edge}

theorem SimM.sub {m : Nat → MV} {a : Act} {w : World} (hs : SimM C s m a w) {x : Operand} {id e l h c : Nat} (hx : getO s.env x = .sub id e l h c) : isSub (m id).v e l h c (a.eval x) ∧ id < s.rows.length := by
  have := hs.get x
  rw [hx] at this
  generalize a.eval x = v at this
  cases this with
  | sub _ _ _ _ _ _ hid hs => exact ⟨hs, hid⟩

end
end Go.Vl


/- Loops in which some slots and some rows turn; states made plain. -/
namespace Go.Vl
set_option linter.unusedVariables false
set_option linter.unusedSimpArgs false
open Go.RowKit

def setAll : List Row → List Nat → List Row → List Row
  | rows, [], _ => rows
  | rows, _ :: _, [] => rows
  | rows, i :: is, r :: rs => setAll (rows.set i r) is rs

def pickR (rows : List Row) (ch : List Nat) : List Row := ch.map fun i => (rows[i]?).getD .dead

section
variable {P : Program} {C : Ctx} {Q : Go.Exit → St → Prop} {s : St}

def againE (N : Nat) (Lf Lv ch : List Nat) (k : Nat) (F : List SV) (R : List Row) (I : Nat → List SV → List Row → Prop) (n : Nat) (s' : St) : Prop :=
  again N (Lf ++ Lv) k (fun m us rows => us.take Lf.length = F ∧ ∃ rs, rs.length = ch.length ∧ rows = setAll R ch rs ∧ I m (us.drop Lf.length) rs) n s'

/-- A loop whose slots Lf stay as they are, and all rows but those of ch. -/
theorem vc_loopE {c : Code} (Lf Lv ch : List Nat) (F : List SV) (R : List Row) (I : Nat → List SV → List Row → Prop) (n0 : Nat) (hF : (Lf.map fun t => look s.env t) = F) (hR : s.rows = R) (hnb : C.nb ≤ R.length)
    (hb0 : F.all (SV.bdd R.length) = true ∧ (Lv.map fun t => look s.env t).all (SV.bdd R.length) = true ∧ R.all (Row.bdd R.length) = true) (hself : setAll R ch (pickR R ch) = R)
    (h0 : I n0 (Lv.map fun t => look s.env t) (pickR R ch))
    (hround : ∀ n vs rs, vs.length = Lv.length → rs.length = ch.length → I n vs rs → VC P C c (thn (againE s.n Lf Lv ch R.length F R I n) Q) ⟨s.n, Lf.zip F ++ Lv.zip vs, setAll R ch rs⟩) :
    VC P C (.loop c) Q s := by
  subst hR
  subst hF
  have hl : (Lf.map fun t => look s.env t).length = Lf.length := by simp
  refine vc_loop (Lf ++ Lv) (fun m us rows => us.take Lf.length = (Lf.map fun t => look s.env t) ∧ ∃ rs, rs.length = ch.length ∧ rows = setAll s.rows ch rs ∧ I m (us.drop Lf.length) rs) n0 hnb ⟨?_, hb0.2.2⟩ ⟨?_, pickR s.rows ch, by simp [pickR], hself.symm, ?_⟩ ?_
  · rw [List.map_append, List.all_append, hb0.1, hb0.2.1]; rfl
  · rw [List.map_append]; simp
  · rw [List.map_append, show Lf.length = (Lf.map fun t => look s.env t).length from hl.symm, List.drop_left]; exact h0
  · rintro n vs rows hv - ⟨h1, rs, hrs, rfl, h2⟩
    have hv' : vs.length = Lf.length + Lv.length := by simpa using hv
    have := hround n (vs.drop Lf.length) rs (by simp; omega) hrs h2
    have e : (Lf ++ Lv).zip vs = Lf.zip (Lf.map fun t => look s.env t) ++ Lv.zip (vs.drop Lf.length) := by
      rw [← h1]
      conv => lhs; rw [← List.take_append_drop Lf.length vs]
      exact List.zip_append (by simp; omega)
    rw [e]
    exact this

theorem againE_mk {N : Nat} {Lf Lv ch : List Nat} {k : Nat} {F : List SV} {R : List Row} {I : Nat → List SV → List Row → Prop} {n : Nat} {s' : St} (h0 : Nat.beq s'.n N = true) (h1 : Nat.ble k s'.rows.length = true)
    (h2 : ((Lf ++ Lv).map fun t => look s'.env t).all (SV.bdd k) = true) (h3 : (s'.rows.take k).all (Row.bdd k) = true)
    (hF : (Lf.map fun t => look s'.env t) = F) (hR : s'.rows.take k = setAll R ch (pickR s'.rows ch))
    (h : ∃ n', n' < n ∧ I n' (Lv.map fun t => look s'.env t) (pickR s'.rows ch)) : againE N Lf Lv ch k F R I n s' := by
  refine ⟨⟨Nat.eq_of_beq_eq_true h0, Nat.le_of_ble_eq_true h1, h2, h3⟩, ?_⟩
  obtain ⟨n', hn, hI⟩ := h
  refine ⟨n', hn, ?_, pickR s'.rows ch, by simp [pickR], hR, ?_⟩
  · rw [List.map_append, ← hF]; simp
  · rw [List.map_append, show Lf.length = (Lf.map fun t => look s'.env t).length by simp, List.drop_left]; exact hI
end

section
variable {late : List Nat} {P : Program} {C : Ctx} {Q : Go.Exit → St → Prop} {K : St → Prop} {s s' : St} {ops : Array Oper} {n : Nat} {listed : Array Bool}
theorem vo_stM {l : List Oper} (next : VO P C ops l Q s') (h : s = s' := by (try simp only [St.put, exposeE, killE, SV.expose, SV.kill, Row.expose, Row.kill, rowsAfter_nil, rowsAfter_one, packS, SV.shift, placeOf, enumE, List.zip_cons_cons, List.zip_nil_right, List.map_cons, List.map_nil, List.set_cons_zero, List.set_cons_succ, List.length_cons, List.length_nil, List.cons_append, List.nil_append, List.drop_succ_cons, List.drop_zero, List.drop_nil, List.take_succ_cons, List.take_zero, List.take_nil, List.getElem?_cons_zero, List.getElem?_cons_succ, List.getElem?_nil, Option.getD_some, Option.getD_none, Option.map_some, Option.map_none, Nat.reduceAdd, Nat.reduceSub, Nat.reduceEqDiff, Nat.zero_add, Bool.true_or, PV.scal, Bool.or_false, Bool.or_true, Bool.false_or, Bool.and_true, Bool.and_false, Bool.true_and, reduceIte, reduceCtorEq, SV.kill1, SV.expose1, deadAll, refsOf, List.foldl_cons, List.foldl_nil, takeSV, takeRows, takeP, takePV, setAll, resG, look_cons, Nat.succ.injEq, Nat.add_eq, Nat.mul_one, Nat.mul_zero, Nat.zero_mul, Nat.add_zero, List.map_map, PV.cells, Nat.reduceMul, List.append_nil, Option.some.injEq, Int.toNat_natCast]); exact eq_refl _) : VO P C ops l Q s := vo_st h next
theorem vc_stM {code : Code} (next : VC P C code Q s') (h : s = s' := by (try simp only [St.put, exposeE, killE, SV.expose, SV.kill, Row.expose, Row.kill, rowsAfter_nil, rowsAfter_one, packS, SV.shift, placeOf, enumE, List.zip_cons_cons, List.zip_nil_right, List.map_cons, List.map_nil, List.set_cons_zero, List.set_cons_succ, List.length_cons, List.length_nil, List.cons_append, List.nil_append, List.drop_succ_cons, List.drop_zero, List.drop_nil, List.take_succ_cons, List.take_zero, List.take_nil, List.getElem?_cons_zero, List.getElem?_cons_succ, List.getElem?_nil, Option.getD_some, Option.getD_none, Option.map_some, Option.map_none, Nat.reduceAdd, Nat.reduceSub, Nat.reduceEqDiff, Nat.zero_add, Bool.true_or, PV.scal, Bool.or_false, Bool.or_true, Bool.false_or, Bool.and_true, Bool.and_false, Bool.true_and, reduceIte, reduceCtorEq, SV.kill1, SV.expose1, deadAll, refsOf, List.foldl_cons, List.foldl_nil, takeSV, takeRows, takeP, takePV, setAll, resG, look_cons, Nat.succ.injEq, Nat.add_eq, Nat.mul_one, Nat.mul_zero, Nat.zero_mul, Nat.add_zero, List.map_map, PV.cells, Nat.reduceMul, List.append_nil, Option.some.injEq, Int.toNat_natCast]); exact eq_refl _) : VC P C code Q s := vc_st h next
theorem vd_stM (next : VD P C ops n listed K s') (h : s = s' := by (try simp only [St.put, exposeE, killE, SV.expose, SV.kill, Row.expose, Row.kill, rowsAfter_nil, rowsAfter_one, packS, SV.shift, placeOf, enumE, List.zip_cons_cons, List.zip_nil_right, List.map_cons, List.map_nil, List.set_cons_zero, List.set_cons_succ, List.length_cons, List.length_nil, List.cons_append, List.nil_append, List.drop_succ_cons, List.drop_zero, List.drop_nil, List.take_succ_cons, List.take_zero, List.take_nil, List.getElem?_cons_zero, List.getElem?_cons_succ, List.getElem?_nil, Option.getD_some, Option.getD_none, Option.map_some, Option.map_none, Nat.reduceAdd, Nat.reduceSub, Nat.reduceEqDiff, Nat.zero_add, Bool.true_or, PV.scal, Bool.or_false, Bool.or_true, Bool.false_or, Bool.and_true, Bool.and_false, Bool.true_and, reduceIte, reduceCtorEq, SV.kill1, SV.expose1, deadAll, refsOf, List.foldl_cons, List.foldl_nil, takeSV, takeRows, takeP, takePV, setAll, resG, look_cons, Nat.succ.injEq, Nat.add_eq, Nat.mul_one, Nat.mul_zero, Nat.zero_mul, Nat.add_zero, List.map_map, PV.cells, Nat.reduceMul, List.append_nil, Option.some.injEq, Int.toNat_natCast]); exact eq_refl _) : VD P C ops n listed K s := vd_st h next
theorem vl_stM (next : VL late P C ops n listed K s') (h : s = s' := by (try simp only [St.put, exposeE, killE, SV.expose, SV.kill, Row.expose, Row.kill, rowsAfter_nil, rowsAfter_one, packS, SV.shift, placeOf, enumE, List.zip_cons_cons, List.zip_nil_right, List.map_cons, List.map_nil, List.set_cons_zero, List.set_cons_succ, List.length_cons, List.length_nil, List.cons_append, List.nil_append, List.drop_succ_cons, List.drop_zero, List.drop_nil, List.take_succ_cons, List.take_zero, List.take_nil, List.getElem?_cons_zero, List.getElem?_cons_succ, List.getElem?_nil, Option.getD_some, Option.getD_none, Option.map_some, Option.map_none, Nat.reduceAdd, Nat.reduceSub, Nat.reduceEqDiff, Nat.zero_add, Bool.true_or, PV.scal, Bool.or_false, Bool.or_true, Bool.false_or, Bool.and_true, Bool.and_false, Bool.true_and, reduceIte, reduceCtorEq, SV.kill1, SV.expose1, deadAll, refsOf, List.foldl_cons, List.foldl_nil, takeSV, takeRows, takeP, takePV, setAll, resG, look_cons, Nat.succ.injEq, Nat.add_eq, Nat.mul_one, Nat.mul_zero, Nat.zero_mul, Nat.add_zero, List.map_map, PV.cells, Nat.reduceMul, List.append_nil, Option.some.injEq, Int.toNat_natCast]); exact eq_refl _) : VL late P C ops n listed K s := vl_st h next
end
end Go.Vl


/- The way into a function, and what it hands back: values, structs, and rows of its own. -/
namespace Go.Vl
set_option linter.unusedVariables false
set_option linter.unusedSimpArgs false
open Go.RowKit

def retQ (C : Ctx) (rs : List (Nat × Option (Nat × Nat))) (R : List SV → List Row → Prop) (e : Go.Exit) (s : St) : Prop :=
  (e = .normal ∨ e = .ret) ∧ rs.all (resGOK s) = true ∧ ∃ res rows', res.length = rs.length ∧ Hands C (List.range rs.length) res rows' ⟨rs.length, enumE 0 (rs.map (resG s)), s.rows⟩ ∧ R res rows'

section
variable {P : Program}

theorem sat_entry_G {f : FuncId} {fn : Func} {c : Code} {args : List SV} {rows : List Row} {R : List SV → List Row → Prop} {rs : List (Nat × Option (Nat × Nat))} (hf : P.funcs[f]? = some fn) (hb : fn.body = some c)
    (hr : fn.results = (rs.map resVar).toArray) (hl : rs.length ≤ 5) (hn : args.length ≤ fn.ntmps) (hT : ∀ r ∈ rs, resT P r)
    (h : ∀ C : Ctx, C.nb = rows.length → VC P C c (retQ C rs R) ⟨fn.ntmps, enumE 0 args, rows⟩) : SatAt P f args rows R := by
  intro C m vals hnb hA hv hs
  refine calls_of_wp hf hb ?_
  have hs2 : SimM C ⟨fn.ntmps, enumE 0 args, rows⟩ m { tmps := vals ++ Array.replicate (fn.ntmps - vals.size) undef, defers := [] } C.w0 := by
    refine { hs with size := ?_, env := fun t => ?_, defs := rfl }
    · simp; omega
    · have := hs.env t
      show RS _ _ _ _ (look (enumE 0 args) t) _
      change RS _ _ _ _ (look (enumE 0 args) t) _ at this
      by_cases ht : t < vals.size
      · have e : (vals ++ Array.replicate (fn.ntmps - vals.size) undef).getD t undef = vals.getD t undef := by
          simp [Array.getD, ht]
          intro hh; omega
        rw [e]
        exact this
      · have e : look (enumE 0 args) t = .any := by
          rw [look_enumE]
          simp
          rw [List.getElem?_eq_none (by omega)]
          rfl
        rw [e]
        exact .any _
  refine wp_mono (h C hnb _ _ ⟨m, hs2⟩) ?_
  rintro e a w' ⟨s', ⟨m', hs'⟩, he, hok, res, rows', hlen, hh, hR⟩
  obtain ⟨us, hrun, hul, hus⟩ := run_resGA (P := P) hs' hr hl hT hok
  have hs3 : SimM C ⟨rs.length, enumE 0 (rs.map (resG s')), s'.rows⟩ m' ⟨us, []⟩ w' := { hs' with
    defs := rfl
    size := hul
    env := fun t => by
      show RS _ _ _ _ (look (enumE 0 (rs.map (resG s'))) t) _
      rw [look_enumE]
      simp only [Nat.zero_le, if_true, Nat.sub_zero]
      rcases Nat.lt_or_ge t rs.length with ht | ht
      · simp only [List.getElem?_map, List.getElem?_eq_getElem ht, Option.map_some, Option.getD_some]
        exact hus t _ (List.getElem?_eq_getElem ht)
      · simp only [List.getElem?_map, List.getElem?_eq_none ht, Option.map_none, Option.getD_none]
        exact .any _ }
  obtain ⟨m2, hm2⟩ := hh m' _ w' hs3
  have hts : ((List.range rs.length).map fun t => us.getD t undef).toArray = us := by
    apply Array.ext_getElem?
    intro i
    simp only [List.getElem?_toArray, List.getElem?_map]
    rcases Nat.lt_or_ge i rs.length with hi | hi
    · rw [List.getElem?_range hi, Array.getElem?_eq_getElem (by omega)]
      simp [Array.getD, show i < us.size by omega]
    · rw [List.getElem?_eq_none (by simpa using hi), Array.getElem?_eq_none (by omega)]
      rfl
  have key : ∃ v, (results fn a.tmps).run P w' = .ok v w' ∧ (∃ (us : Array Value) (res : List SV) (rows' : List Row) (m' : Nat → MV), Ending.returned v = .returned (pack us) ∧ us.size = res.length ∧
      SimM C ⟨us.size, enumE 0 res, rows'⟩ m' ⟨us, []⟩ w' ∧ R res rows') := by
    refine ⟨_, hrun, us, res, rows', m2, rfl, by rw [hul, hlen], ?_, hR⟩
    change SimM C ⟨_, _, _⟩ m2 ⟨((List.range rs.length).map fun t => us.getD t undef).toArray, []⟩ w' at hm2
    rw [hts] at hm2
    rw [hul]
    simpa using hm2
  obtain ⟨v, hv1, hv2⟩ := key
  rcases he with rfl | rfl
  · exact ⟨hs'.defs, v, hv1, hv2⟩
  · exact ⟨hs'.defs, v, hv1, hv2⟩

theorem retQ_sel {C : Ctx} {rs : List (Nat × Option (Nat × Nat))} {R : List SV → List Row → Prop} {s : St} {e : Go.Exit} {k : Nat} (sel : List Nat) {srows : List Row} (he : e = .normal ∨ e = .ret) (hnb : C.nb = k) (hok : rs.all (resGOK s) = true) (hkl : Nat.ble k s.rows.length = true)
    (h3 : sel.map (placeOf sel) = (List.range sel.length).map some) (hsr : sel.map (fun id => s.rows[id]?) = srows.map some) (hge : sel.all (fun id => Nat.ble k id) = true) (hb1 : (s.rows.take k).all (Row.bdd k) = true) (hb2 : srows.all (Row.bdd 0) = true)
    (hR : R ((List.range rs.length).map fun t => renS k sel (look (enumE 0 (rs.map (resG s))) t)) (s.rows.take k ++ srows)) : retQ C rs R e s :=
  ⟨he, hok, _, _, by simp, hands_sel (s := ⟨rs.length, enumE 0 (rs.map (resG s)), s.rows⟩) (ts := List.range rs.length) sel hnb hkl h3 hsr hge hb1 hb2, hR⟩
end
end Go.Vl


/- A field of an element of a row is written. -/
namespace Go.Vl
set_option linter.unusedVariables false
set_option linter.unusedSimpArgs false
open Go.RowKit
section
variable {P : Program} {C : Ctx} {Q : Go.Exit → St → Prop} {s : St} {ops : Array Oper} {rest : List Oper} {t : Nat} {ty : TypeId} {pos : String} {af : Array Edge}

end
end Go.Vl


/- The facts on the types of this translation that the rules ask for. -/
namespace Go.Vl
set_option linter.unusedVariables false
set_option linter.unusedSimpArgs false
open Go.Proofs
noncomputable def ti3 : TypeInfo := (Try.prog.info? 3).getD default
theorem inf3 : Try.prog.info? 3 = some ti3 := by kernel_rfl
theorem sz3 : ti3.size = 1 := by kernel_rfl
theorem by3 : ti3.bytes = 8 := by kernel_rfl
noncomputable def ti4 : TypeInfo := (Try.prog.info? 4).getD default
theorem inf4 : Try.prog.info? 4 = some ti4 := by kernel_rfl
theorem sz4 : ti4.size = 1 := by kernel_rfl
noncomputable def ti5 : TypeInfo := (Try.prog.info? 5).getD default
noncomputable def ti22 : TypeInfo := (Try.prog.info? 22).getD default
noncomputable def ti32 : TypeInfo := (Try.prog.info? 32).getD default
theorem inf32 : Try.prog.info? 32 = some ti32 := by kernel_rfl
theorem sz32 : ti32.size = 1 := by kernel_rfl
noncomputable def ti37 : TypeInfo := (Try.prog.info? 37).getD default
theorem inf37 : Try.prog.info? 37 = some ti37 := by kernel_rfl
theorem sz37 : ti37.size = 2 := by kernel_rfl
theorem by37 : ti37.bytes = 16 := by kernel_rfl
noncomputable def ti38 : TypeInfo := (Try.prog.info? 38).getD default
theorem inf38 : Try.prog.info? 38 = some ti38 := by kernel_rfl
theorem sz38 : ti38.size = 1 := by kernel_rfl
noncomputable def ti46 : TypeInfo := (Try.prog.info? 46).getD default
noncomputable def ti50 : TypeInfo := (Try.prog.info? 50).getD default
theorem inf50 : Try.prog.info? 50 = some ti50 := by kernel_rfl
theorem sz50 : ti50.size = 1 := by kernel_rfl
noncomputable def ti51 : TypeInfo := (Try.prog.info? 51).getD default
theorem inf51 : Try.prog.info? 51 = some ti51 := by kernel_rfl
theorem sz51 : ti51.size = 1 := by kernel_rfl
noncomputable def ti53 : TypeInfo := (Try.prog.info? 53).getD default
theorem inf53 : Try.prog.info? 53 = some ti53 := by kernel_rfl
theorem sz53 : ti53.size = 2 := by kernel_rfl
noncomputable def ti56 : TypeInfo := (Try.prog.info? 56).getD default
theorem inf56 : Try.prog.info? 56 = some ti56 := by kernel_rfl
theorem sz56 : ti56.size = 1 := by kernel_rfl
noncomputable def ti58 : TypeInfo := (Try.prog.info? 58).getD default
theorem inf58 : Try.prog.info? 58 = some ti58 := by kernel_rfl
theorem sz58 : ti58.size = 2 := by kernel_rfl
noncomputable def ti70 : TypeInfo := (Try.prog.info? 70).getD default
theorem inf70 : Try.prog.info? 70 = some ti70 := by kernel_rfl
theorem sz70 : ti70.size = 4 := by kernel_rfl
theorem by70 : ti70.bytes = 80 := by kernel_rfl
noncomputable def ti72 : TypeInfo := (Try.prog.info? 72).getD default
noncomputable def ti86 : TypeInfo := (Try.prog.info? 86).getD default
theorem inf86 : Try.prog.info? 86 = some ti86 := by kernel_rfl
theorem sz86 : ti86.size = 2 := by kernel_rfl
theorem by86 : ti86.bytes = 16 := by kernel_rfl
noncomputable def ti93 : TypeInfo := (Try.prog.info? 93).getD default
noncomputable def ti95 : TypeInfo := (Try.prog.info? 95).getD default
noncomputable def ti113 : TypeInfo := (Try.prog.info? 113).getD default
noncomputable def ti122 : TypeInfo := (Try.prog.info? 122).getD default
theorem inf122 : Try.prog.info? 122 = some ti122 := by kernel_rfl
theorem sz122 : ti122.size = 4 := by kernel_rfl
theorem by122 : ti122.bytes = 80 := by kernel_rfl
theorem E50 : ElInfo Try.prog 50 3 1 8 (.int .i64 0) :=
  ⟨Try.underlying50, ⟨ti3, (.int .i64 0), inf3, sz3, by3, by kernel_rfl, by kernel_rfl, fun _ _ => .int _ _⟩, fits_of rfl, by decide⟩
theorem Z37 : StZ Try.prog 37 [(.int .i64 0), (.int .i64 0)] := by
  refine ⟨⟨_, Try.underlying37⟩, ti37, #[(.int .i64 0), (.int .i64 0)], inf37, sz37, by kernel_rfl, fun w G => .agg _ _ rfl ?_ ?_⟩
  · intro j c h
    match j, h with
    | 0, h => cases h; rfl
    | 1, h => cases h; rfl
  · intro j c u h hu
    match j, h, hu with
    | 0, h, hu => cases h; cases hu; exact .int _ _
    | 1, h, hu => cases h; cases hu; exact .int _ _
theorem E32 : ElInfo Try.prog 32 37 2 16 (.agg [(.int .i64 0), (.int .i64 0)]) := .of_struct Try.underlying32 Z37 (fun i h => by rw [inf37] at h; rw [← Option.some.inj h]; exact by37) (List.cons_ne_nil _ _)
theorem S37 : StInfo Try.prog 37 [(0, 1), (1, 1)] [(.int .i64 0), (.int .i64 0)] := by
  refine ⟨⟨_, Try.underlying37⟩, #[(.int .i64 0), (.int .i64 0)], fun l => by kernel_rfl, fun w G => .agg _ _ rfl ?_ ?_⟩
  · intro j c h
    match j, h with
    | 0, h => cases h; rfl
    | 1, h => cases h; rfl
  · intro j c u h hu
    match j, h, hu with
    | 0, h, hu => cases h; cases hu; exact .int _ _
    | 1, h, hu => cases h; cases hu; exact .int _ _
theorem Z58 : StZ Try.prog 58 [(.sl none 1 []), (.sl none 4 [])] := by
  refine ⟨⟨_, Try.underlying58⟩, ti58, #[(.slice none 0 0), (.slice none 0 0)], inf58, sz58, by kernel_rfl, fun w G => .agg _ _ rfl ?_ ?_⟩
  · intro j c h
    match j, h with
    | 0, h => cases h; rfl
    | 1, h => cases h; rfl
  · intro j c u h hu
    match j, h, hu with
    | 0, h, hu => cases h; cases hu; exact .nilsl _ _ (by decide)
    | 1, h, hu => cases h; cases hu; exact .nilsl _ _ (by decide)
theorem Z70 : StZ Try.prog 70 [(.bool false), (.sl none 1 []), (.sl none 1 []), (.sl none 2 [])] := by
  refine ⟨⟨_, Try.underlying70⟩, ti70, #[(.bool false), (.slice none 0 0), (.slice none 0 0), (.slice none 0 0)], inf70, sz70, by kernel_rfl, fun w G => .agg _ _ rfl ?_ ?_⟩
  · intro j c h
    match j, h with
    | 0, h => cases h; rfl
    | 1, h => cases h; rfl
    | 2, h => cases h; rfl
    | 3, h => cases h; rfl
  · intro j c u h hu
    match j, h, hu with
    | 0, h, hu => cases h; cases hu; exact .bool _
    | 1, h, hu => cases h; cases hu; exact .nilsl _ _ (by decide)
    | 2, h, hu => cases h; cases hu; exact .nilsl _ _ (by decide)
    | 3, h, hu => cases h; cases hu; exact .nilsl _ _ (by decide)
theorem E56 : ElInfo Try.prog 56 70 4 80 (.agg [(.bool false), (.sl none 1 []), (.sl none 1 []), (.sl none 2 [])]) := .of_struct Try.underlying56 Z70 (fun i h => by rw [inf70] at h; rw [← Option.some.inj h]; exact by70) (List.cons_ne_nil _ _)
theorem Z86 : StZ Try.prog 86 [(.int .i64 0), (.int .i64 0)] := by
  refine ⟨⟨_, Try.underlying86⟩, ti86, #[(.int .i64 0), (.int .i64 0)], inf86, sz86, by kernel_rfl, fun w G => .agg _ _ rfl ?_ ?_⟩
  · intro j c h
    match j, h with
    | 0, h => cases h; rfl
    | 1, h => cases h; rfl
  · intro j c u h hu
    match j, h, hu with
    | 0, h, hu => cases h; cases hu; exact .int _ _
    | 1, h, hu => cases h; cases hu; exact .int _ _
theorem E38 : ElInfo Try.prog 38 86 2 16 (.agg [(.int .i64 0), (.int .i64 0)]) := .of_struct Try.underlying38 Z86 (fun i h => by rw [inf86] at h; rw [← Option.some.inj h]; exact by86) (List.cons_ne_nil _ _)
theorem Z122 : StZ Try.prog 122 [(.bool false), (.sl none 1 []), (.sl none 1 []), (.sl none 2 [])] := by
  refine ⟨⟨_, Try.underlying122⟩, ti122, #[(.bool false), (.slice none 0 0), (.slice none 0 0), (.slice none 0 0)], inf122, sz122, by kernel_rfl, fun w G => .agg _ _ rfl ?_ ?_⟩
  · intro j c h
    match j, h with
    | 0, h => cases h; rfl
    | 1, h => cases h; rfl
    | 2, h => cases h; rfl
    | 3, h => cases h; rfl
  · intro j c u h hu
    match j, h, hu with
    | 0, h, hu => cases h; cases hu; exact .bool _
    | 1, h, hu => cases h; cases hu; exact .nilsl _ _ (by decide)
    | 2, h, hu => cases h; cases hu; exact .nilsl _ _ (by decide)
    | 3, h, hu => cases h; cases hu; exact .nilsl _ _ (by decide)
theorem E51 : ElInfo Try.prog 51 122 4 80 (.agg [(.bool false), (.sl none 1 []), (.sl none 1 []), (.sl none 2 [])]) := .of_struct Try.underlying51 Z122 (fun i h => by rw [inf122] at h; rw [← Option.some.inj h]; exact by122) (List.cons_ne_nil _ _)
end Go.Vl


namespace Go.Vl
set_option linter.unusedVariables false
set_option linter.unusedSimpArgs false
open Go.Proofs
theorem rows_eq {α : Type} {el : TypeId} {e : Nat} {nl : Option Bool} {f : Bool} {g : α → PV} {a b : List α} (h : a = b) : [Row.own el e nl f (List.map g a)] = [Row.own el e nl f (List.map g b)] := by rw [h]
def findM (n : Int) : List Int → Int → Int
  | [], _ => -1
  | x :: xs, i => if x = n then i else findM n xs (i+1)

theorem findM_drop (n : Int) (l : List Int) (k : Nat) (h : k < l.length) : findM n (l.drop k) k = if l.getD k 0 = n then (k : Int) else findM n (l.drop (k+1)) (k+1) := by
  rw [List.drop_eq_getElem_cons h]
  simp [findM, List.getD, List.getElem?_eq_getElem h]

theorem findM_mem (n : Int) : ∀ (l : List Int) (k : Int), 0 ≤ k → (0 ≤ findM n l k ↔ n ∈ l)
  | [], k, _ => by simp [findM]
  | x :: xs, k, h => by
    by_cases hx : x = n
    · simp [findM, hx, h]
    · have := findM_mem n xs (k+1) (by omega)
      simp [findM, hx, Ne.symm hx, this]

theorem findM_not (n : Int) (l : List Int) (k : Int) (h : 0 ≤ k) : findM n l k < 0 ↔ n ∉ l := by
  rw [← findM_mem n l k h]; omega

theorem nodup_take_succ {α : Type} {l : List α} {k : Nat} (h : k < l.length) (d : α) : (l.take (k+1)).Nodup ↔ (l.take k).Nodup ∧ l.getD k d ∉ l.take k := by
  rw [List.take_succ_eq_append_getElem h, List.nodup_append]
  simp [List.getD, List.getElem?_eq_getElem h]
  intro _
  exact ⟨fun h1 h2 => h1 _ h2 rfl, fun h1 a ha e => h1 (e ▸ ha)⟩

theorem nodup_take {α : Type} {l : List α} (k : Nat) (h : l.Nodup) : (l.take k).Nodup := (List.take_sublist k l).nodup h

theorem all_take_succ {α : Type} {p : α → Prop} {l : List α} {k : Nat} (h : k < l.length) (d : α) : (∀ x ∈ l.take (k+1), p x) ↔ (∀ x ∈ l.take k, p x) ∧ p (l.getD k d) := by
  rw [List.take_succ_eq_append_getElem h]
  simp only [List.mem_append, List.mem_singleton, or_imp, forall_and, forall_eq, List.getD, List.getElem?_eq_getElem h, Option.getD_some]

theorem getD_mem {α : Type} {l : List α} {k : Nat} (h : k < l.length) (d : α) : l.getD k d ∈ l := by
  simp [List.getD, List.getElem?_eq_getElem h]

theorem take_all {α : Type} {l : List α} {k : Nat} (h : l.length ≤ k) : l.take k = l := List.take_of_length_le h
theorem bT {P : Prop} [Decidable P] (h : P) : true = decide P := (decide_eq_true h).symm
theorem bF {P : Prop} [Decidable P] (h : ¬ P) : false = decide P := (decide_eq_false h).symm
/-- What can be the bases of a class. -/
def CB (l : List Int) (c : Int) : Prop := l ≠ [] ∧ l.length ≤ 4 ∧ l.Nodup ∧ ∀ x ∈ l, 0 ≤ x ∧ x ≤ c - 1
instance {l : List Int} {c : Int} : Decidable (CB l c) := by unfold CB; infer_instance
/-- Bases that are valid. -/
def VB (b : List (List Int)) : Prop := 1 ≤ b.length ∧ b.length ≤ 12 ∧ b.getD 0 [] = [] ∧ ∀ i, i < b.length → 0 < i → CB (b.getD i []) i
instance {b : List (List Int)} : Decidable (VB b) := by unfold VB; infer_instance
def RB0 (l : List Int) (i : Nat) : Prop := (l.length = 0 ↔ i = 0) ∧ l.length ≤ 4 ∧ l.Nodup ∧ ∀ x ∈ l, 0 ≤ x ∧ x ≤ (i : Int) - 1
/-- Lists that can be merged or kept. -/
def OKL (l : List Int) (m : Int) : Prop := (l.length : Int) ≤ m ∧ l.Nodup
instance {l : List Int} {c : Int} : Decidable (OKL l c) := by unfold OKL; infer_instance
/-- Slots that are valid. -/
def VS (b s : List (List Int)) : Prop := VB b ∧ s.length = b.length ∧ s.getD 0 [] = [] ∧ ∀ l ∈ s, OKL l 4 ∧ ∀ x ∈ l, 0 ≤ x ∧ x ≤ 9
instance {b s : List (List Int)} : Decidable (VS b s) := by unfold VS; infer_instance

theorem placeIn_sat {nl0 : Option Bool} {list : List Int} {n : Int} (hlist : list.length < 1000000000)  : SatAt Try.prog 112 [.pv false (.sl nl0 1 (list.map intP)), i64 n] [] (fun res rows => res = [i64 (findM n list 0)] ∧ rows = []) := by
  refine sat_entry (ts := [4]) Try.func112 rfl rfl (by decide) (Nat.le_of_ble_eq_true rfl) fun C hC => ?_
  rw [Try.ntmps112]
  replace hC : C.nb = 0 := hC
  refine vc_seq fun K1 hK1 => ?_
  refine vc_region ?_
  refine vo_assign_pv rfl rfl ?_
  refine vo_nil ?_
  refine hK1 _ ?_
  refine vc_seq fun K2 hK2 => ?_
  refine vc_seq fun K3 hK3 => ?_
  refine vc_region ?_
  refine vo_assign_pv rfl rfl ?_
  refine vo_nil ?_
  refine hK3 _ ?_
  refine vc_block ?_
  refine vc_stN ?_
  refine vc_loopF [0, 1] [5] [.pv false (.sl nl0 1 (list.map intP)), i64 n] _ (fun mz vs => ∃ (k : Nat), mz = list.length - k ∧ (k ≤ list.length) ∧ (findM n list 0 = findM n (list.drop k) k) ∧ vs = [i64 k]) (list.length) rfl rfl (le_len hC rfl) ⟨rfl, rfl, rfl⟩ ⟨0, rfl, Nat.zero_le _, rfl, rfl⟩ ?_
  rintro mz vs - ⟨k, rfl, hk, hf, rfl⟩
  refine vc_stN ?_
  refine vc_seq fun K4 hK4 => ?_
  refine vc_seq fun K5 hK5 => ?_
  refine vc_region ?_
  refine vo_move_pv rfl rfl ?_
  refine vo_move_pv rfl rfl ?_
  refine vo_len_pv rfl rfl Try.underlying50 ?_
  refine vo_binI rfl rfl rfl rfl trivial ?_
  refine vo_nil ?_
  refine hK5 _ ?_
  refine vc_cond rfl (fun hc1 => ?_) (fun hc1 => ?_)
  · try simp only [decide_eq_true_eq, decide_eq_false_iff_not, beq_iff_eq, bne_iff_ne, beq_eq_false_iff_ne, bne_eq_false_iff_eq, Bool.not_eq_true, Bool.not_eq_false, Bool.not_eq_eq_eq_not, Bool.not_true, Bool.not_false, List.length_map, Int.not_lt, Int.not_le, ne_eq, Decidable.not_not] at hc1
    refine vc_skip ?_
    refine hK4 _ ?_
    refine vc_seq fun K6 hK6 => ?_
    refine vc_block ?_
    refine vc_seq fun K7 hK7 => ?_
    refine vc_region ?_
    refine vo_move_pv rfl rfl ?_
    refine vo_move_pv rfl rfl ?_
    refine vo_index_pv (.int .i64 0) rfl rfl rfl E50.und inf3 sz3 sd sd ?_
    simp only [Int.toNat_natCast, Int.toNat_zero, getD_ints, getD_intss, getD_bools, getD_bytes, PV.cells]
    refine vo_load_adr rfl rfl Try.underlying3 rfl ?_
    refine vo_move_pv rfl rfl ?_
    refine vo_binI rfl rfl rfl rfl trivial ?_
    refine vo_nil ?_
    refine hK7 _ ?_
    refine vc_cond rfl (fun hc2 => ?_) (fun hc2 => ?_)
    · try simp only [decide_eq_true_eq, decide_eq_false_iff_not, beq_iff_eq, bne_iff_ne, beq_eq_false_iff_ne, bne_eq_false_iff_eq, Bool.not_eq_true, Bool.not_eq_false, Bool.not_eq_eq_eq_not, Bool.not_true, Bool.not_false, List.length_map, Int.not_lt, Int.not_le, ne_eq, Decidable.not_not] at hc2
      refine vc_seq fun K8 hK8 => ?_
      refine vc_region ?_
      refine vo_move_pv rfl rfl ?_
      refine vo_assign_pv rfl rfl ?_
      refine vo_nil ?_
      refine hK8 _ ?_
      refine vc_ret ?_
      change retPv _ _ _ _ _
      refine retPv_mk rfl rfl rfl ⟨?_, rfl⟩
      refine (congrArg (fun b => [i64 b]) (?_ : _ = _) : [i64 _] = [i64 _])
      rw [hf, findM_drop _ _ _ (by omega), if_pos (by omega)]
    · try simp only [decide_eq_true_eq, decide_eq_false_iff_not, beq_iff_eq, bne_iff_ne, beq_eq_false_iff_ne, bne_eq_false_iff_eq, Bool.not_eq_true, Bool.not_eq_false, Bool.not_eq_eq_eq_not, Bool.not_true, Bool.not_false, List.length_map, Int.not_lt, Int.not_le, ne_eq, Decidable.not_not] at hc2
      refine vc_skip ?_
      refine hK6 _ ?_
      refine vc_region ?_
      refine vo_move_pv rfl rfl ?_
      refine vo_binI rfl rfl rfl rfl sd ?_
      refine vo_assign_pv rfl rfl ?_
      refine vo_nil ?_
      change againF _ _ _ _ _ _ _ _ _
      refine againF_mk rfl rfl rfl rfl rfl rfl ⟨_, ?_, k + 1, rfl, ?_, ?_, rfl⟩
      · omega
      · omega
      · rw [hf, findM_drop _ _ _ (by omega), if_neg (by omega)]; rfl
  · try simp only [decide_eq_true_eq, decide_eq_false_iff_not, beq_iff_eq, bne_iff_ne, beq_eq_false_iff_ne, bne_eq_false_iff_eq, Bool.not_eq_true, Bool.not_eq_false, Bool.not_eq_eq_eq_not, Bool.not_true, Bool.not_false, List.length_map, Int.not_lt, Int.not_le, ne_eq, Decidable.not_not] at hc1
    refine vc_exit ?_
    refine hK2 _ ?_
    refine vc_seq fun K9 hK9 => ?_
    refine vc_region ?_
    refine vo_assign_pv rfl rfl ?_
    refine vo_nil ?_
    refine hK9 _ ?_
    refine vc_ret ?_
    change retPv _ _ _ _ _
    refine retPv_mk rfl rfl rfl ⟨?_, rfl⟩
    refine (congrArg (fun b => [i64 b]) (?_ : _ = _) : [i64 _] = [i64 _])
    rw [hf, show k = list.length by omega, List.drop_length]; rfl


theorem different_sat {nl0 : Option Bool} {list : List Int} (hlist : list.length < 1000000000)  : SatAt Try.prog 99 [.pv false (.sl nl0 1 (list.map intP))] [] (fun res rows => res = [bo (decide (list.Nodup))] ∧ rows = []) := by
  refine sat_entry (ts := [2]) Try.func99 rfl rfl (by decide) (Nat.le_of_ble_eq_true rfl) fun C hC => ?_
  rw [Try.ntmps99]
  replace hC : C.nb = 0 := hC
  refine vc_seq fun K1 hK1 => ?_
  refine vc_region ?_
  refine vo_assign_pv rfl rfl ?_
  refine vo_nil ?_
  refine hK1 _ ?_
  refine vc_seq fun K2 hK2 => ?_
  refine vc_seq fun K3 hK3 => ?_
  refine vc_region ?_
  refine vo_assign_pv rfl rfl ?_
  refine vo_nil ?_
  refine hK3 _ ?_
  refine vc_block ?_
  refine vc_stN ?_
  refine vc_loopF [0] [3] [.pv false (.sl nl0 1 (list.map intP))] _ (fun mz vs => ∃ (k : Nat), mz = list.length - k ∧ (k ≤ list.length) ∧ ((list.take k).Nodup) ∧ vs = [i64 k]) (list.length) rfl rfl (le_len hC rfl) ⟨rfl, rfl, rfl⟩ ⟨0, rfl, Nat.zero_le _, List.nodup_nil, rfl⟩ ?_
  rintro mz vs - ⟨k, rfl, hk, hf, rfl⟩
  refine vc_stN ?_
  refine vc_seq fun K4 hK4 => ?_
  refine vc_seq fun K5 hK5 => ?_
  refine vc_region ?_
  refine vo_move_pv rfl rfl ?_
  refine vo_move_pv rfl rfl ?_
  refine vo_len_pv rfl rfl Try.underlying50 ?_
  refine vo_binI rfl rfl rfl rfl trivial ?_
  refine vo_nil ?_
  refine hK5 _ ?_
  refine vc_cond rfl (fun hc1 => ?_) (fun hc1 => ?_)
  · try simp only [decide_eq_true_eq, decide_eq_false_iff_not, beq_iff_eq, bne_iff_ne, beq_eq_false_iff_ne, bne_eq_false_iff_eq, Bool.not_eq_true, Bool.not_eq_false, Bool.not_eq_eq_eq_not, Bool.not_true, Bool.not_false, List.length_map, Int.not_lt, Int.not_le, ne_eq, Decidable.not_not] at hc1
    refine vc_skip ?_
    refine hK4 _ ?_
    refine vc_seq fun K6 hK6 => ?_
    refine vc_block ?_
    refine vc_seq fun K7 hK7 => ?_
    refine vc_draw (by kernel_rfl) ?_
    change VD _ _ _ 9 _ _ _
    refine vd_light 0 rfl rfl rfl (by kernel_rfl) (by kernel_rfl) (by kernel_rfl) (wnt_none rfl) (lt_move_pv rfl) ?_
    refine vd_light 1 rfl rfl rfl (by kernel_rfl) (by kernel_rfl) (by kernel_rfl) (wnt_none rfl) (lt_move_pv rfl) ?_
    refine vd_light 2 rfl rfl rfl (by kernel_rfl) (by kernel_rfl) (by kernel_rfl) (wnt_none rfl) (lt_slice_pv rfl rfl rfl E50.und inf3 sz3 sd sd sd) ?_
    simp only [Int.toNat_natCast, Int.toNat_zero, List.drop_zero, Nat.sub_zero, ← List.map_drop, ← List.map_take]
    refine vd_light 3 rfl rfl rfl (by kernel_rfl) (by kernel_rfl) (by kernel_rfl) (wnt_none rfl) (lt_move_pv rfl) ?_
    refine vd_light 4 rfl rfl rfl (by kernel_rfl) (by kernel_rfl) (by kernel_rfl) (wnt_none rfl) (lt_move_pv rfl) ?_
    refine vd_light 5 rfl rfl rfl (by kernel_rfl) (by kernel_rfl) (by kernel_rfl) (wnt_none rfl) (lt_index_pv (.int .i64 0) rfl rfl E50.und inf3 sz3 sd sd) ?_
    simp only [Int.toNat_natCast, Int.toNat_zero, getD_ints, getD_intss, getD_bools, getD_bytes, PV.cells]
    refine vd_light 6 rfl rfl rfl (by kernel_rfl) (by kernel_rfl) (by kernel_rfl) (wnt_none rfl) (lt_load_adr rfl Try.underlying3 rfl) ?_
    refine vd_call 7 rfl (by kernel_rfl) (wnt_none rfl) Try.func112 rfl rfl rfl rfl (placeIn_sat (by simp; omega)) ?_
    rintro _ _ ⟨rfl, rfl⟩
    refine ⟨rfl, rfl, .inl rfl, ?_⟩
    refine vd_light 8 rfl rfl rfl (by kernel_rfl) (by kernel_rfl) (by kernel_rfl) (wnt_none rfl) (lt_binI rfl rfl rfl trivial) ?_
    refine vd_nil (by kernel_rfl) ?_
    refine hK7 _ ?_
    refine vc_cond rfl (fun hc2 => ?_) (fun hc2 => ?_)
    · try simp only [decide_eq_true_eq, decide_eq_false_iff_not, beq_iff_eq, bne_iff_ne, beq_eq_false_iff_ne, bne_eq_false_iff_eq, Bool.not_eq_true, Bool.not_eq_false, Bool.not_eq_eq_eq_not, Bool.not_true, Bool.not_false, List.length_map, Int.not_lt, Int.not_le, ne_eq, Decidable.not_not] at hc2
      refine vc_seq fun K8 hK8 => ?_
      refine vc_region ?_
      refine vo_assign_pv rfl rfl ?_
      refine vo_nil ?_
      refine hK8 _ ?_
      refine vc_ret ?_
      change retPv _ _ _ _ _
      refine retPv_mk rfl rfl rfl ⟨?_, rfl⟩
      refine (congrArg (fun b => [bo b]) (?_ : _ = _) : [bo _] = [bo _])
      exact bF fun h => ((nodup_take_succ (by omega) 0).1 (nodup_take (k+1) h)).2 ((findM_mem _ _ _ (by omega)).1 hc2)
    · try simp only [decide_eq_true_eq, decide_eq_false_iff_not, beq_iff_eq, bne_iff_ne, beq_eq_false_iff_ne, bne_eq_false_iff_eq, Bool.not_eq_true, Bool.not_eq_false, Bool.not_eq_eq_eq_not, Bool.not_true, Bool.not_false, List.length_map, Int.not_lt, Int.not_le, ne_eq, Decidable.not_not] at hc2
      refine vc_skip ?_
      refine hK6 _ ?_
      refine vc_region ?_
      refine vo_move_pv rfl rfl ?_
      refine vo_binI rfl rfl rfl rfl sd ?_
      refine vo_assign_pv rfl rfl ?_
      refine vo_nil ?_
      change againF _ _ _ _ _ _ _ _ _
      refine againF_mk rfl rfl rfl rfl rfl rfl ⟨_, ?_, k + 1, rfl, ?_, ?_, rfl⟩
      · omega
      · omega
      · exact (nodup_take_succ (by omega) 0).2 ⟨hf, (findM_not _ _ _ (by omega)).1 hc2⟩
  · try simp only [decide_eq_true_eq, decide_eq_false_iff_not, beq_iff_eq, bne_iff_ne, beq_eq_false_iff_ne, bne_eq_false_iff_eq, Bool.not_eq_true, Bool.not_eq_false, Bool.not_eq_eq_eq_not, Bool.not_true, Bool.not_false, List.length_map, Int.not_lt, Int.not_le, ne_eq, Decidable.not_not] at hc1
    refine vc_exit ?_
    refine hK2 _ ?_
    refine vc_seq fun K9 hK9 => ?_
    refine vc_region ?_
    refine vo_assign_pv rfl rfl ?_
    refine vo_nil ?_
    refine hK9 _ ?_
    refine vc_ret ?_
    change retPv _ _ _ _ _
    refine retPv_mk rfl rfl rfl ⟨?_, rfl⟩
    refine (congrArg (fun b => [bo b]) (?_ : _ = _) : [bo _] = [bo _])
    rw [take_all (by omega)] at hf; exact bT hf


theorem inRange_sat {n : Int} {low : Int} {high : Int}   : SatAt Try.prog 69 [i64 n, i64 low, i64 high] [] (fun res rows => res = [bo (decide (low ≤ n ∧ n ≤ high))] ∧ rows = []) := by
  refine sat_entry (ts := [6]) Try.func69 rfl rfl (by decide) (Nat.le_of_ble_eq_true rfl) fun C hC => ?_
  rw [Try.ntmps69]
  replace hC : C.nb = 0 := hC
  refine vc_seq fun K1 hK1 => ?_
  refine vc_region ?_
  refine vo_assign_pv rfl rfl ?_
  refine vo_nil ?_
  refine hK1 _ ?_
  refine vc_seq fun K2 hK2 => ?_
  refine vc_region ?_
  refine vo_move_pv rfl rfl ?_
  refine vo_move_pv rfl rfl ?_
  refine vo_binI rfl rfl rfl rfl trivial ?_
  refine vo_move_pv rfl rfl ?_
  refine vo_split 10 rfl (fun hg1 => ?_) (fun hg1 => ?_)
  · try simp only [decide_eq_true_eq, decide_eq_false_iff_not, beq_iff_eq, bne_iff_ne, beq_eq_false_iff_ne, bne_eq_false_iff_eq, Bool.not_eq_true, Bool.not_eq_false, Bool.not_eq_eq_eq_not, Bool.not_true, Bool.not_false, List.length_map, Int.not_lt, Int.not_le, ne_eq, Decidable.not_not] at hg1
    refine vo_guard_on rfl rfl rfl ?_
    refine vo_move_pv rfl rfl ?_
    refine vo_guard_on rfl rfl rfl ?_
    refine vo_move_pv rfl rfl ?_
    refine vo_guard_on rfl rfl rfl ?_
    refine vo_binI rfl rfl rfl rfl trivial ?_
    refine vo_pick_t rfl rfl ?_
    refine vo_assign_pv rfl rfl ?_
    refine vo_nil ?_
    refine hK2 _ ?_
    refine vc_ret ?_
    change retPv _ _ _ _ _
    refine retPv_mk rfl rfl rfl ⟨?_, rfl⟩
    refine (congrArg (fun b => [bo b]) (?_ : _ = _) : [bo _] = [bo _])
    simp_all <;> omega
  · try simp only [decide_eq_true_eq, decide_eq_false_iff_not, beq_iff_eq, bne_iff_ne, beq_eq_false_iff_ne, bne_eq_false_iff_eq, Bool.not_eq_true, Bool.not_eq_false, Bool.not_eq_eq_eq_not, Bool.not_true, Bool.not_false, List.length_map, Int.not_lt, Int.not_le, ne_eq, Decidable.not_not] at hg1
    refine vo_guard_off rfl rfl rfl rfl rfl ?_
    refine vo_guard_off rfl rfl rfl rfl rfl ?_
    refine vo_guard_off rfl rfl rfl rfl rfl ?_
    refine vo_pick_f rfl rfl ?_
    refine vo_assign_pv rfl rfl ?_
    refine vo_nil ?_
    refine hK2 _ ?_
    refine vc_ret ?_
    change retPv _ _ _ _ _
    refine retPv_mk rfl rfl rfl ⟨?_, rfl⟩
    refine (congrArg (fun b => [bo b]) (?_ : _ = _) : [bo _] = [bo _])
    simp_all <;> omega


theorem allIn_sat {nl0 : Option Bool} {list : List Int} {low : Int} {high : Int} (hlist : list.length < 1000000000)  : SatAt Try.prog 100 [.pv false (.sl nl0 1 (list.map intP)), i64 low, i64 high] [] (fun res rows => res = [bo (decide (∀ x ∈ list, low ≤ x ∧ x ≤ high))] ∧ rows = []) := by
  refine sat_entry (ts := [6]) Try.func100 rfl rfl (by decide) (Nat.le_of_ble_eq_true rfl) fun C hC => ?_
  rw [Try.ntmps100]
  replace hC : C.nb = 0 := hC
  refine vc_seq fun K1 hK1 => ?_
  refine vc_region ?_
  refine vo_assign_pv rfl rfl ?_
  refine vo_nil ?_
  refine hK1 _ ?_
  refine vc_seq fun K2 hK2 => ?_
  refine vc_seq fun K3 hK3 => ?_
  refine vc_region ?_
  refine vo_assign_pv rfl rfl ?_
  refine vo_nil ?_
  refine hK3 _ ?_
  refine vc_block ?_
  refine vc_stN ?_
  refine vc_loopF [0, 1, 2] [7] [.pv false (.sl nl0 1 (list.map intP)), i64 low, i64 high] _ (fun mz vs => ∃ (k : Nat), mz = list.length - k ∧ (k ≤ list.length) ∧ (∀ x ∈ list.take k, low ≤ x ∧ x ≤ high) ∧ vs = [i64 k]) (list.length) rfl rfl (le_len hC rfl) ⟨rfl, rfl, rfl⟩ ⟨0, rfl, Nat.zero_le _, (by simp), rfl⟩ ?_
  rintro mz vs - ⟨k, rfl, hk, hf, rfl⟩
  refine vc_stN ?_
  refine vc_seq fun K4 hK4 => ?_
  refine vc_seq fun K5 hK5 => ?_
  refine vc_region ?_
  refine vo_move_pv rfl rfl ?_
  refine vo_move_pv rfl rfl ?_
  refine vo_len_pv rfl rfl Try.underlying50 ?_
  refine vo_binI rfl rfl rfl rfl trivial ?_
  refine vo_nil ?_
  refine hK5 _ ?_
  refine vc_cond rfl (fun hc1 => ?_) (fun hc1 => ?_)
  · try simp only [decide_eq_true_eq, decide_eq_false_iff_not, beq_iff_eq, bne_iff_ne, beq_eq_false_iff_ne, bne_eq_false_iff_eq, Bool.not_eq_true, Bool.not_eq_false, Bool.not_eq_eq_eq_not, Bool.not_true, Bool.not_false, List.length_map, Int.not_lt, Int.not_le, ne_eq, Decidable.not_not] at hc1
    refine vc_skip ?_
    refine hK4 _ ?_
    refine vc_seq fun K6 hK6 => ?_
    refine vc_block ?_
    refine vc_seq fun K7 hK7 => ?_
    refine vc_region ?_
    refine vo_move_pv rfl rfl ?_
    refine vo_move_pv rfl rfl ?_
    refine vo_index_pv (.int .i64 0) rfl rfl rfl E50.und inf3 sz3 sd sd ?_
    simp only [Int.toNat_natCast, Int.toNat_zero, getD_ints, getD_intss, getD_bools, getD_bytes, PV.cells]
    refine vo_load_adr rfl rfl Try.underlying3 rfl ?_
    refine vo_move_pv rfl rfl ?_
    refine vo_move_pv rfl rfl ?_
    refine vo_call0 Try.func69 rfl rfl rfl rfl inRange_sat ?_
    rintro _ _ ⟨rfl, rfl⟩
    refine ⟨rfl, rfl, .inl rfl, ?_⟩
    refine vo_not rfl rfl ?_
    refine vo_nil ?_
    refine hK7 _ ?_
    refine vc_cond rfl (fun hc2 => ?_) (fun hc2 => ?_)
    · try simp only [decide_eq_true_eq, decide_eq_false_iff_not, beq_iff_eq, bne_iff_ne, beq_eq_false_iff_ne, bne_eq_false_iff_eq, Bool.not_eq_true, Bool.not_eq_false, Bool.not_eq_eq_eq_not, Bool.not_true, Bool.not_false, List.length_map, Int.not_lt, Int.not_le, ne_eq, Decidable.not_not] at hc2
      refine vc_seq fun K8 hK8 => ?_
      refine vc_region ?_
      refine vo_assign_pv rfl rfl ?_
      refine vo_nil ?_
      refine hK8 _ ?_
      refine vc_ret ?_
      change retPv _ _ _ _ _
      refine retPv_mk rfl rfl rfl ⟨?_, rfl⟩
      refine (congrArg (fun b => [bo b]) (?_ : _ = _) : [bo _] = [bo _])
      refine bF fun h => ?_
      have h1 := h _ (getD_mem (show k < list.length by omega) 0)
      simp_all
    · try simp only [decide_eq_true_eq, decide_eq_false_iff_not, beq_iff_eq, bne_iff_ne, beq_eq_false_iff_ne, bne_eq_false_iff_eq, Bool.not_eq_true, Bool.not_eq_false, Bool.not_eq_eq_eq_not, Bool.not_true, Bool.not_false, List.length_map, Int.not_lt, Int.not_le, ne_eq, Decidable.not_not] at hc2
      refine vc_skip ?_
      refine hK6 _ ?_
      refine vc_region ?_
      refine vo_move_pv rfl rfl ?_
      refine vo_binI rfl rfl rfl rfl sd ?_
      refine vo_assign_pv rfl rfl ?_
      refine vo_nil ?_
      change againF _ _ _ _ _ _ _ _ _
      refine againF_mk rfl rfl rfl rfl rfl rfl ⟨_, ?_, k + 1, rfl, ?_, ?_, rfl⟩
      · omega
      · omega
      · exact (all_take_succ (by omega) 0).2 ⟨hf, by simpa using hc2⟩
  · try simp only [decide_eq_true_eq, decide_eq_false_iff_not, beq_iff_eq, bne_iff_ne, beq_eq_false_iff_ne, bne_eq_false_iff_eq, Bool.not_eq_true, Bool.not_eq_false, Bool.not_eq_eq_eq_not, Bool.not_true, Bool.not_false, List.length_map, Int.not_lt, Int.not_le, ne_eq, Decidable.not_not] at hc1
    refine vc_exit ?_
    refine hK2 _ ?_
    refine vc_seq fun K9 hK9 => ?_
    refine vc_region ?_
    refine vo_assign_pv rfl rfl ?_
    refine vo_nil ?_
    refine hK9 _ ?_
    refine vc_ret ?_
    change retPv _ _ _ _ _
    refine retPv_mk rfl rfl rfl ⟨?_, rfl⟩
    refine (congrArg (fun b => [bo b]) (?_ : _ = _) : [bo _] = [bo _])
    rw [take_all (by omega)] at hf; exact bT hf


theorem Index_sat {nl0 : Option Bool} {s : List Int} {v : Int} (hs : s.length < 1000000000)  : SatAt Try.prog 116 [.pv false (.sl nl0 1 (s.map intP)), i64 v] [] (fun res rows => res = [i64 (findM v s 0)] ∧ rows = []) := by
  refine sat_entry (ts := [4]) Try.func116 rfl rfl (by decide) (Nat.le_of_ble_eq_true rfl) fun C hC => ?_
  rw [Try.ntmps116]
  replace hC : C.nb = 0 := hC
  refine vc_seq fun K1 hK1 => ?_
  refine vc_region ?_
  refine vo_assign_pv rfl rfl ?_
  refine vo_nil ?_
  refine hK1 _ ?_
  refine vc_seq fun K2 hK2 => ?_
  refine vc_seq fun K3 hK3 => ?_
  refine vc_region ?_
  refine vo_move_pv rfl rfl ?_
  refine vo_len_pv rfl rfl Try.underlying50 ?_
  refine vo_move_pv rfl rfl ?_
  refine vo_nil ?_
  refine hK3 _ ?_
  refine vc_block ?_
  refine vc_stN ?_
  refine vc_loopF [0, 1, 7] [8] [.pv false (.sl nl0 1 (s.map intP)), i64 v, i64 (s.map intP).length] _ (fun mz vs => ∃ (k : Nat), mz = s.length - k ∧ (k ≤ s.length) ∧ (findM v s 0 = findM v (s.drop k) k) ∧ vs = [i64 k]) (s.length) rfl rfl (le_len hC rfl) ⟨rfl, rfl, rfl⟩ ⟨0, rfl, Nat.zero_le _, rfl, rfl⟩ ?_
  rintro mz vs - ⟨k, rfl, hk, hf, rfl⟩
  refine vc_stN ?_
  refine vc_seq fun K4 hK4 => ?_
  refine vc_region ?_
  refine vo_binI rfl rfl rfl rfl trivial ?_
  refine vo_nil ?_
  refine hK4 _ ?_
  refine vc_seq fun K5 hK5 => ?_
  refine vc_cond rfl (fun hc1 => ?_) (fun hc1 => ?_)
  · try simp only [decide_eq_true_eq, decide_eq_false_iff_not, beq_iff_eq, bne_iff_ne, beq_eq_false_iff_ne, bne_eq_false_iff_eq, Bool.not_eq_true, Bool.not_eq_false, Bool.not_eq_eq_eq_not, Bool.not_true, Bool.not_false, List.length_map, Int.not_lt, Int.not_le, ne_eq, Decidable.not_not] at hc1
    refine vc_skip ?_
    refine hK5 _ ?_
    refine vc_seq fun K6 hK6 => ?_
    refine vc_block ?_
    refine vc_seq fun K7 hK7 => ?_
    refine vc_region ?_
    refine vo_move_pv rfl rfl ?_
    refine vo_assign_pv rfl rfl ?_
    refine vo_nil ?_
    refine hK7 _ ?_
    refine vc_seq fun K8 hK8 => ?_
    refine vc_region ?_
    refine vo_move_pv rfl rfl ?_
    refine vo_move_pv rfl rfl ?_
    refine vo_move_pv rfl rfl ?_
    refine vo_index_pv (.int .i64 0) rfl rfl rfl E50.und inf3 sz3 sd sd ?_
    simp only [Int.toNat_natCast, Int.toNat_zero, getD_ints, getD_intss, getD_bools, getD_bytes, PV.cells]
    refine vo_load_adr rfl rfl Try.underlying3 rfl ?_
    refine vo_binI rfl rfl rfl rfl trivial ?_
    refine vo_nil ?_
    refine hK8 _ ?_
    refine vc_cond rfl (fun hc2 => ?_) (fun hc2 => ?_)
    · try simp only [decide_eq_true_eq, decide_eq_false_iff_not, beq_iff_eq, bne_iff_ne, beq_eq_false_iff_ne, bne_eq_false_iff_eq, Bool.not_eq_true, Bool.not_eq_false, Bool.not_eq_eq_eq_not, Bool.not_true, Bool.not_false, List.length_map, Int.not_lt, Int.not_le, ne_eq, Decidable.not_not] at hc2
      refine vc_seq fun K9 hK9 => ?_
      refine vc_region ?_
      refine vo_move_pv rfl rfl ?_
      refine vo_assign_pv rfl rfl ?_
      refine vo_nil ?_
      refine hK9 _ ?_
      refine vc_ret ?_
      change retPv _ _ _ _ _
      refine retPv_mk rfl rfl rfl ⟨?_, rfl⟩
      refine (congrArg (fun b => [i64 b]) (?_ : _ = _) : [i64 _] = [i64 _])
      rw [hf, findM_drop _ _ _ (by omega), if_pos (by omega)]
    · try simp only [decide_eq_true_eq, decide_eq_false_iff_not, beq_iff_eq, bne_iff_ne, beq_eq_false_iff_ne, bne_eq_false_iff_eq, Bool.not_eq_true, Bool.not_eq_false, Bool.not_eq_eq_eq_not, Bool.not_true, Bool.not_false, List.length_map, Int.not_lt, Int.not_le, ne_eq, Decidable.not_not] at hc2
      refine vc_skip ?_
      refine hK6 _ ?_
      refine vc_region ?_
      refine vo_binI rfl rfl rfl rfl sd ?_
      refine vo_move_pv rfl rfl ?_
      refine vo_nil ?_
      change againF _ _ _ _ _ _ _ _ _
      refine againF_mk rfl rfl rfl rfl rfl rfl ⟨_, ?_, k + 1, rfl, ?_, ?_, rfl⟩
      · omega
      · omega
      · rw [hf, findM_drop _ _ _ (by omega), if_neg (by omega)]; rfl
  · try simp only [decide_eq_true_eq, decide_eq_false_iff_not, beq_iff_eq, bne_iff_ne, beq_eq_false_iff_ne, bne_eq_false_iff_eq, Bool.not_eq_true, Bool.not_eq_false, Bool.not_eq_eq_eq_not, Bool.not_true, Bool.not_false, List.length_map, Int.not_lt, Int.not_le, ne_eq, Decidable.not_not] at hc1
    refine vc_exit ?_
    refine hK2 _ ?_
    refine vc_seq fun K10 hK10 => ?_
    refine vc_region ?_
    refine vo_assign_pv rfl rfl ?_
    refine vo_nil ?_
    refine hK10 _ ?_
    refine vc_ret ?_
    change retPv _ _ _ _ _
    refine retPv_mk rfl rfl rfl ⟨?_, rfl⟩
    refine (congrArg (fun b => [i64 b]) (?_ : _ = _) : [i64 _] = [i64 _])
    rw [hf, show k = s.length by omega, List.drop_length]; rfl


theorem Contains_sat {nl0 : Option Bool} {s : List Int} {v : Int} (hs : s.length < 1000000000)  : SatAt Try.prog 103 [.pv false (.sl nl0 1 (s.map intP)), i64 v] [] (fun res rows => res = [bo (decide (v ∈ s))] ∧ rows = []) := by
  refine sat_entry (ts := [4]) Try.func103 rfl rfl (by decide) (Nat.le_of_ble_eq_true rfl) fun C hC => ?_
  rw [Try.ntmps103]
  replace hC : C.nb = 0 := hC
  refine vc_seq fun K1 hK1 => ?_
  refine vc_region ?_
  refine vo_assign_pv rfl rfl ?_
  refine vo_nil ?_
  refine hK1 _ ?_
  refine vc_seq fun K2 hK2 => ?_
  refine vc_region ?_
  refine vo_move_pv rfl rfl ?_
  refine vo_move_pv rfl rfl ?_
  refine vo_call0 Try.func116 rfl rfl rfl rfl (Index_sat hs) ?_
  rintro _ _ ⟨rfl, rfl⟩
  refine ⟨rfl, rfl, .inl rfl, ?_⟩
  refine vo_binI rfl rfl rfl rfl trivial ?_
  refine vo_assign_pv rfl rfl ?_
  refine vo_nil ?_
  refine hK2 _ ?_
  refine vc_ret ?_
  change retPv _ _ _ _ _
  refine retPv_mk rfl rfl rfl ⟨?_, rfl⟩
  refine (congrArg (fun b => [bo b]) (?_ : _ = _) : [bo _] = [bo _])
  exact decide_eq_decide.2 (findM_mem _ _ _ (by omega))


theorem isList_sat {nl0 : Option Bool} {list : List Int} {most : Int} (hlist : list.length < 1000000000)  : SatAt Try.prog 76 [.pv false (.sl nl0 1 (list.map intP)), i64 most] [] (fun res rows => res = [bo (decide (OKL list most))] ∧ rows = []) := by
  refine sat_entry (ts := [4]) Try.func76 rfl rfl (by decide) (Nat.le_of_ble_eq_true rfl) fun C hC => ?_
  rw [Try.ntmps76]
  replace hC : C.nb = 0 := hC
  refine vc_seq fun K1 hK1 => ?_
  refine vc_region ?_
  refine vo_assign_pv rfl rfl ?_
  refine vo_nil ?_
  refine hK1 _ ?_
  refine vc_seq fun K2 hK2 => ?_
  refine vc_seq fun K3 hK3 => ?_
  refine vc_region ?_
  refine vo_move_pv rfl rfl ?_
  refine vo_len_pv rfl rfl Try.underlying50 ?_
  refine vo_move_pv rfl rfl ?_
  refine vo_binI rfl rfl rfl rfl trivial ?_
  refine vo_nil ?_
  refine hK3 _ ?_
  refine vc_cond rfl (fun hc1 => ?_) (fun hc1 => ?_)
  · try simp only [decide_eq_true_eq, decide_eq_false_iff_not, beq_iff_eq, bne_iff_ne, beq_eq_false_iff_ne, bne_eq_false_iff_eq, Bool.not_eq_true, Bool.not_eq_false, Bool.not_eq_eq_eq_not, Bool.not_true, Bool.not_false, List.length_map, Int.not_lt, Int.not_le, ne_eq, Decidable.not_not] at hc1
    refine vc_seq fun K4 hK4 => ?_
    refine vc_region ?_
    refine vo_assign_pv rfl rfl ?_
    refine vo_nil ?_
    refine hK4 _ ?_
    refine vc_ret ?_
    change retPv _ _ _ _ _
    refine retPv_mk rfl rfl rfl ⟨?_, rfl⟩
    refine (congrArg (fun b => [bo b]) (?_ : _ = _) : [bo _] = [bo _])
    exact bF fun h => by have := h.1; omega
  · try simp only [decide_eq_true_eq, decide_eq_false_iff_not, beq_iff_eq, bne_iff_ne, beq_eq_false_iff_ne, bne_eq_false_iff_eq, Bool.not_eq_true, Bool.not_eq_false, Bool.not_eq_eq_eq_not, Bool.not_true, Bool.not_false, List.length_map, Int.not_lt, Int.not_le, ne_eq, Decidable.not_not] at hc1
    refine vc_skip ?_
    refine hK2 _ ?_
    refine vc_seq fun K5 hK5 => ?_
    refine vc_seq fun K6 hK6 => ?_
    refine vc_region ?_
    refine vo_move_pv rfl rfl ?_
    refine vo_len_pv rfl rfl Try.underlying50 ?_
    refine vo_move_pv rfl rfl ?_
    refine vo_nil ?_
    refine hK6 _ ?_
    refine vc_block ?_
    refine vc_stN ?_
    refine vc_loopF [0, 11, 12] [13] [.pv false (.sl nl0 1 (list.map intP)), .pv false (.sl nl0 1 (list.map intP)), i64 (list.map intP).length] _ (fun mz vs => ∃ (k : Nat), mz = list.length - k ∧ (k ≤ list.length) ∧ ((list.take k).Nodup) ∧ vs = [i64 k]) (list.length) rfl rfl (le_len hC rfl) ⟨rfl, rfl, rfl⟩ ⟨0, rfl, Nat.zero_le _, List.nodup_nil, rfl⟩ ?_
    rintro mz vs - ⟨k, rfl, hk, hf, rfl⟩
    refine vc_stN ?_
    refine vc_seq fun K7 hK7 => ?_
    refine vc_region ?_
    refine vo_binI rfl rfl rfl rfl trivial ?_
    refine vo_nil ?_
    refine hK7 _ ?_
    refine vc_seq fun K8 hK8 => ?_
    refine vc_cond rfl (fun hc2 => ?_) (fun hc2 => ?_)
    · try simp only [decide_eq_true_eq, decide_eq_false_iff_not, beq_iff_eq, bne_iff_ne, beq_eq_false_iff_ne, bne_eq_false_iff_eq, Bool.not_eq_true, Bool.not_eq_false, Bool.not_eq_eq_eq_not, Bool.not_true, Bool.not_false, List.length_map, Int.not_lt, Int.not_le, ne_eq, Decidable.not_not] at hc2
      refine vc_skip ?_
      refine hK8 _ ?_
      refine vc_seq fun K9 hK9 => ?_
      refine vc_block ?_
      refine vc_seq fun K10 hK10 => ?_
      refine vc_region ?_
      refine vo_move_pv rfl rfl ?_
      refine vo_index_pv (.int .i64 0) rfl rfl rfl E50.und inf3 sz3 sd sd ?_
      simp only [Int.toNat_natCast, Int.toNat_zero, getD_ints, getD_intss, getD_bools, getD_bytes, PV.cells]
      refine vo_load_adr rfl rfl Try.underlying3 rfl ?_
      refine vo_assign_pv rfl rfl ?_
      refine vo_assign_pv rfl rfl ?_
      refine vo_nil ?_
      refine hK10 _ ?_
      refine vc_seq fun K11 hK11 => ?_
      refine vc_region ?_
      refine vo_move_pv rfl rfl ?_
      refine vo_move_pv rfl rfl ?_
      refine vo_slice_pv rfl rfl rfl rfl E50.und inf3 sz3 sd sd sd ?_
      simp only [Int.toNat_natCast, Int.toNat_zero, List.drop_zero, Nat.sub_zero, ← List.map_drop, ← List.map_take]
      refine vo_move_pv rfl rfl ?_
      refine vo_call0 Try.func103 rfl rfl rfl rfl (Contains_sat (by simp; omega)) ?_
      rintro _ _ ⟨rfl, rfl⟩
      refine ⟨rfl, rfl, .inl rfl, ?_⟩
      refine vo_nil ?_
      refine hK11 _ ?_
      refine vc_cond rfl (fun hc3 => ?_) (fun hc3 => ?_)
      · try simp only [decide_eq_true_eq, decide_eq_false_iff_not, beq_iff_eq, bne_iff_ne, beq_eq_false_iff_ne, bne_eq_false_iff_eq, Bool.not_eq_true, Bool.not_eq_false, Bool.not_eq_eq_eq_not, Bool.not_true, Bool.not_false, List.length_map, Int.not_lt, Int.not_le, ne_eq, Decidable.not_not] at hc3
        refine vc_seq fun K12 hK12 => ?_
        refine vc_region ?_
        refine vo_assign_pv rfl rfl ?_
        refine vo_nil ?_
        refine hK12 _ ?_
        refine vc_ret ?_
        change retPv _ _ _ _ _
        refine retPv_mk rfl rfl rfl ⟨?_, rfl⟩
        refine (congrArg (fun b => [bo b]) (?_ : _ = _) : [bo _] = [bo _])
        exact bF fun h => ((nodup_take_succ (by omega) 0).1 (nodup_take (k+1) h.2)).2 hc3
      · try simp only [decide_eq_true_eq, decide_eq_false_iff_not, beq_iff_eq, bne_iff_ne, beq_eq_false_iff_ne, bne_eq_false_iff_eq, Bool.not_eq_true, Bool.not_eq_false, Bool.not_eq_eq_eq_not, Bool.not_true, Bool.not_false, List.length_map, Int.not_lt, Int.not_le, ne_eq, Decidable.not_not] at hc3
        refine vc_skip ?_
        refine hK9 _ ?_
        refine vc_region ?_
        refine vo_binI rfl rfl rfl rfl sd ?_
        refine vo_move_pv rfl rfl ?_
        refine vo_nil ?_
        change againF _ _ _ _ _ _ _ _ _
        refine againF_mk rfl rfl rfl rfl rfl rfl ⟨_, ?_, k + 1, rfl, ?_, ?_, rfl⟩
        · omega
        · omega
        · exact (nodup_take_succ (by omega) 0).2 ⟨hf, hc3⟩
    · try simp only [decide_eq_true_eq, decide_eq_false_iff_not, beq_iff_eq, bne_iff_ne, beq_eq_false_iff_ne, bne_eq_false_iff_eq, Bool.not_eq_true, Bool.not_eq_false, Bool.not_eq_eq_eq_not, Bool.not_true, Bool.not_false, List.length_map, Int.not_lt, Int.not_le, ne_eq, Decidable.not_not] at hc2
      refine vc_exit ?_
      refine hK5 _ ?_
      refine vc_seq fun K13 hK13 => ?_
      refine vc_region ?_
      refine vo_assign_pv rfl rfl ?_
      refine vo_nil ?_
      refine hK13 _ ?_
      refine vc_ret ?_
      change retPv _ _ _ _ _
      refine retPv_mk rfl rfl rfl ⟨?_, rfl⟩
      refine (congrArg (fun b => [bo b]) (?_ : _ = _) : [bo _] = [bo _])
      rw [take_all (by omega)] at hf; exact bT ⟨by omega, hf⟩


theorem isUpTo_sat {n : Int} {most : Int}   : SatAt Try.prog 91 [i64 n, i64 most] [] (fun res rows => res = [bo (decide (0 ≤ n ∧ n ≤ most))] ∧ rows = []) := by
  refine sat_entry (ts := [4]) Try.func91 rfl rfl (by decide) (Nat.le_of_ble_eq_true rfl) fun C hC => ?_
  rw [Try.ntmps91]
  replace hC : C.nb = 0 := hC
  refine vc_seq fun K1 hK1 => ?_
  refine vc_region ?_
  refine vo_assign_pv rfl rfl ?_
  refine vo_nil ?_
  refine hK1 _ ?_
  refine vc_seq fun K2 hK2 => ?_
  refine vc_region ?_
  refine vo_move_pv rfl rfl ?_
  refine vo_binI rfl rfl rfl rfl trivial ?_
  refine vo_move_pv rfl rfl ?_
  refine vo_split 7 rfl (fun hg1 => ?_) (fun hg1 => ?_)
  · try simp only [decide_eq_true_eq, decide_eq_false_iff_not, beq_iff_eq, bne_iff_ne, beq_eq_false_iff_ne, bne_eq_false_iff_eq, Bool.not_eq_true, Bool.not_eq_false, Bool.not_eq_eq_eq_not, Bool.not_true, Bool.not_false, List.length_map, Int.not_lt, Int.not_le, ne_eq, Decidable.not_not] at hg1
    refine vo_guard_on rfl rfl rfl ?_
    refine vo_move_pv rfl rfl ?_
    refine vo_guard_on rfl rfl rfl ?_
    refine vo_move_pv rfl rfl ?_
    refine vo_guard_on rfl rfl rfl ?_
    refine vo_binI rfl rfl rfl rfl trivial ?_
    refine vo_pick_t rfl rfl ?_
    refine vo_assign_pv rfl rfl ?_
    refine vo_nil ?_
    refine hK2 _ ?_
    refine vc_ret ?_
    change retPv _ _ _ _ _
    refine retPv_mk rfl rfl rfl ⟨?_, rfl⟩
    refine (congrArg (fun b => [bo b]) (?_ : _ = _) : [bo _] = [bo _])
    simp_all <;> omega
  · try simp only [decide_eq_true_eq, decide_eq_false_iff_not, beq_iff_eq, bne_iff_ne, beq_eq_false_iff_ne, bne_eq_false_iff_eq, Bool.not_eq_true, Bool.not_eq_false, Bool.not_eq_eq_eq_not, Bool.not_true, Bool.not_false, List.length_map, Int.not_lt, Int.not_le, ne_eq, Decidable.not_not] at hg1
    refine vo_guard_off rfl rfl rfl rfl rfl ?_
    refine vo_guard_off rfl rfl rfl rfl rfl ?_
    refine vo_guard_off rfl rfl rfl rfl rfl ?_
    refine vo_pick_f rfl rfl ?_
    refine vo_assign_pv rfl rfl ?_
    refine vo_nil ?_
    refine hK2 _ ?_
    refine vc_ret ?_
    change retPv _ _ _ _ _
    refine retPv_mk rfl rfl rfl ⟨?_, rfl⟩
    refine (congrArg (fun b => [bo b]) (?_ : _ = _) : [bo _] = [bo _])
    simp_all <;> omega


theorem areUpTo_sat {nl0 : Option Bool} {list : List Int} {most : Int} (hlist : list.length < 1000000000)  : SatAt Try.prog 77 [.pv false (.sl nl0 1 (list.map intP)), i64 most] [] (fun res rows => res = [bo (decide (∀ x ∈ list, 0 ≤ x ∧ x ≤ most))] ∧ rows = []) := by
  refine sat_entry (ts := [4]) Try.func77 rfl rfl (by decide) (Nat.le_of_ble_eq_true rfl) fun C hC => ?_
  rw [Try.ntmps77]
  replace hC : C.nb = 0 := hC
  refine vc_seq fun K1 hK1 => ?_
  refine vc_region ?_
  refine vo_assign_pv rfl rfl ?_
  refine vo_nil ?_
  refine hK1 _ ?_
  refine vc_seq fun K2 hK2 => ?_
  refine vc_seq fun K3 hK3 => ?_
  refine vc_region ?_
  refine vo_move_pv rfl rfl ?_
  refine vo_len_pv rfl rfl Try.underlying50 ?_
  refine vo_move_pv rfl rfl ?_
  refine vo_nil ?_
  refine hK3 _ ?_
  refine vc_block ?_
  refine vc_stN ?_
  refine vc_loopF [1, 7, 8] [9] [i64 most, .pv false (.sl nl0 1 (list.map intP)), i64 (list.map intP).length] _ (fun mz vs => ∃ (k : Nat), mz = list.length - k ∧ (k ≤ list.length) ∧ (∀ x ∈ list.take k, 0 ≤ x ∧ x ≤ most) ∧ vs = [i64 k]) (list.length) rfl rfl (le_len hC rfl) ⟨rfl, rfl, rfl⟩ ⟨0, rfl, Nat.zero_le _, (by simp), rfl⟩ ?_
  rintro mz vs - ⟨k, rfl, hk, hf, rfl⟩
  refine vc_stN ?_
  refine vc_seq fun K4 hK4 => ?_
  refine vc_region ?_
  refine vo_binI rfl rfl rfl rfl trivial ?_
  refine vo_nil ?_
  refine hK4 _ ?_
  refine vc_seq fun K5 hK5 => ?_
  refine vc_cond rfl (fun hc1 => ?_) (fun hc1 => ?_)
  · try simp only [decide_eq_true_eq, decide_eq_false_iff_not, beq_iff_eq, bne_iff_ne, beq_eq_false_iff_ne, bne_eq_false_iff_eq, Bool.not_eq_true, Bool.not_eq_false, Bool.not_eq_eq_eq_not, Bool.not_true, Bool.not_false, List.length_map, Int.not_lt, Int.not_le, ne_eq, Decidable.not_not] at hc1
    refine vc_skip ?_
    refine hK5 _ ?_
    refine vc_seq fun K6 hK6 => ?_
    refine vc_block ?_
    refine vc_seq fun K7 hK7 => ?_
    refine vc_region ?_
    refine vo_index_pv (.int .i64 0) rfl rfl rfl E50.und inf3 sz3 sd sd ?_
    simp only [Int.toNat_natCast, Int.toNat_zero, getD_ints, getD_intss, getD_bools, getD_bytes, PV.cells]
    refine vo_load_adr rfl rfl Try.underlying3 rfl ?_
    refine vo_assign_pv rfl rfl ?_
    refine vo_nil ?_
    refine hK7 _ ?_
    refine vc_seq fun K8 hK8 => ?_
    refine vc_region ?_
    refine vo_move_pv rfl rfl ?_
    refine vo_move_pv rfl rfl ?_
    refine vo_call0 Try.func91 rfl rfl rfl rfl isUpTo_sat ?_
    rintro _ _ ⟨rfl, rfl⟩
    refine ⟨rfl, rfl, .inl rfl, ?_⟩
    refine vo_not rfl rfl ?_
    refine vo_nil ?_
    refine hK8 _ ?_
    refine vc_cond rfl (fun hc2 => ?_) (fun hc2 => ?_)
    · try simp only [decide_eq_true_eq, decide_eq_false_iff_not, beq_iff_eq, bne_iff_ne, beq_eq_false_iff_ne, bne_eq_false_iff_eq, Bool.not_eq_true, Bool.not_eq_false, Bool.not_eq_eq_eq_not, Bool.not_true, Bool.not_false, List.length_map, Int.not_lt, Int.not_le, ne_eq, Decidable.not_not] at hc2
      refine vc_seq fun K9 hK9 => ?_
      refine vc_region ?_
      refine vo_assign_pv rfl rfl ?_
      refine vo_nil ?_
      refine hK9 _ ?_
      refine vc_ret ?_
      change retPv _ _ _ _ _
      refine retPv_mk rfl rfl rfl ⟨?_, rfl⟩
      refine (congrArg (fun b => [bo b]) (?_ : _ = _) : [bo _] = [bo _])
      exact bF fun h => by have := h _ (getD_mem (show k < list.length by omega) 0); first | contradiction | omega
    · try simp only [decide_eq_true_eq, decide_eq_false_iff_not, beq_iff_eq, bne_iff_ne, beq_eq_false_iff_ne, bne_eq_false_iff_eq, Bool.not_eq_true, Bool.not_eq_false, Bool.not_eq_eq_eq_not, Bool.not_true, Bool.not_false, List.length_map, Int.not_lt, Int.not_le, ne_eq, Decidable.not_not] at hc2
      refine vc_skip ?_
      refine hK6 _ ?_
      refine vc_region ?_
      refine vo_binI rfl rfl rfl rfl sd ?_
      refine vo_move_pv rfl rfl ?_
      refine vo_nil ?_
      change againF _ _ _ _ _ _ _ _ _
      refine againF_mk rfl rfl rfl rfl rfl rfl ⟨_, ?_, k + 1, rfl, ?_, ?_, rfl⟩
      · omega
      · omega
      · exact (all_take_succ (by omega) 0).2 ⟨hf, by first | assumption | omega⟩
  · try simp only [decide_eq_true_eq, decide_eq_false_iff_not, beq_iff_eq, bne_iff_ne, beq_eq_false_iff_ne, bne_eq_false_iff_eq, Bool.not_eq_true, Bool.not_eq_false, Bool.not_eq_eq_eq_not, Bool.not_true, Bool.not_false, List.length_map, Int.not_lt, Int.not_le, ne_eq, Decidable.not_not] at hc1
    refine vc_exit ?_
    refine hK2 _ ?_
    refine vc_seq fun K10 hK10 => ?_
    refine vc_region ?_
    refine vo_assign_pv rfl rfl ?_
    refine vo_nil ?_
    refine hK10 _ ?_
    refine vc_ret ?_
    change retPv _ _ _ _ _
    refine retPv_mk rfl rfl rfl ⟨?_, rfl⟩
    refine (congrArg (fun b => [bo b]) (?_ : _ = _) : [bo _] = [bo _])
    rw [take_all (by omega)] at hf; exact bT hf

end Go.Vl


namespace Go.Vl
set_option linter.unusedVariables false
set_option linter.unusedSimpArgs false
open Go.Proofs

/-- The classes above a class; none where there is no such class. -/
def abvR (b : List (List Int)) (c : Int) : List Int := if VB b ∧ 0 ≤ c ∧ c < b.length then abvL b c.toNat else []
end Go.Vl


namespace Go.Vl
set_option linter.unusedVariables false
set_option linter.unusedSimpArgs false
open Go.Proofs

theorem row1_eq {el : TypeId} {e : Nat} {nl : Option Bool} {f : Bool} {xs ys : List PV} (h : xs = ys) : [Row.own el e nl f xs] = [Row.own el e nl f ys] := by rw [h]
theorem fill_set {α : Type} (f : α → PV) (a : List α) (k : Nat) (h : k < a.length) (d : α) (z : PV) : ((a.take k).map f ++ List.replicate (a.length - k) z).set k (f (a.getD k d)) = (a.take (k+1)).map f ++ List.replicate (a.length - (k+1)) z := by
  have e : a.getD k d = a[k] := by simp [List.getD, List.getElem?_eq_getElem h]
  rw [e, List.take_succ_eq_append_getElem h, List.map_append, List.set_append_right _ _ (by simp; omega), show a.length - k = (a.length - (k+1)) + 1 by omega, List.replicate_succ]
  simp [show min k a.length = k by omega]
theorem fill_set0 {α : Type} (a : List α) (k : Nat) (h : k < a.length) (d : α) (z : α) : ((a.take k) ++ List.replicate (a.length - k) z).set k (a.getD k d) = (a.take (k+1)) ++ List.replicate (a.length - (k+1)) z := by
  have e : a.getD k d = a[k] := by simp [List.getD, List.getElem?_eq_getElem h]
  rw [e, List.take_succ_eq_append_getElem h, List.set_append_right _ _ (by simp; omega), show a.length - k = (a.length - (k+1)) + 1 by omega, List.replicate_succ]
  simp [show min k a.length = k by omega]
  rw [List.take_succ_eq_append_getElem h, List.append_assoc]; rfl
theorem take_eq_succ {α : Type} {a b : List α} {k : Nat} (h : k < a.length) (h2 : k < b.length) (d : α) : a.take (k+1) = b.take (k+1) ↔ a.take k = b.take k ∧ a.getD k d = b.getD k d := by
  rw [List.take_succ_eq_append_getElem h, List.take_succ_eq_append_getElem h2]
  have e1 : a.getD k d = a[k] := by simp [List.getD, List.getElem?_eq_getElem h]
  have e2 : b.getD k d = b[k] := by simp [List.getD, List.getElem?_eq_getElem h2]
  rw [e1, e2]
  constructor
  · intro h3
    have := List.append_inj' h3 rfl
    exact ⟨this.1, by simpa using this.2⟩
  · rintro ⟨h3, h4⟩; rw [h3, h4]
theorem take_eq_of {α : Type} {a b : List α} (h : a = b) (k : Nat) : a.take k = b.take k := by rw [h]

theorem eqIntS_sat {nl0 : Option Bool} {a : List Int} {nl1 : Option Bool} {b : List Int} (ha : a.length < 1000000000) (hb : b.length < 1000000000)  : SatAt Try.prog 79 [.pv false (.sl nl0 1 (a.map intP)), .pv false (.sl nl1 1 (b.map intP))] [] (fun res rows => res = [bo (decide (a = b))] ∧ rows = []) := by
  refine sat_entry (ts := [4]) Try.func79 rfl rfl (by decide) (Nat.le_of_ble_eq_true rfl) fun C hC => ?_
  rw [Try.ntmps79]
  replace hC : C.nb = 0 := hC
  refine vc_seq fun K1 hK1 => ?_
  refine vc_region ?_
  refine vo_assign_pv rfl rfl ?_
  refine vo_nil ?_
  refine hK1 _ ?_
  refine vc_seq fun K2 hK2 => ?_
  refine vc_seq fun K3 hK3 => ?_
  refine vc_region ?_
  refine vo_move_pv rfl rfl ?_
  refine vo_len_pv rfl rfl Try.underlying50 ?_
  refine vo_move_pv rfl rfl ?_
  refine vo_len_pv rfl rfl Try.underlying50 ?_
  refine vo_binI rfl rfl rfl rfl trivial ?_
  refine vo_nil ?_
  refine hK3 _ ?_
  refine vc_cond rfl (fun hc1 => ?_) (fun hc1 => ?_)
  · try simp only [decide_eq_true_eq, decide_eq_false_iff_not, beq_iff_eq, bne_iff_ne, beq_eq_false_iff_ne, bne_eq_false_iff_eq, Bool.not_eq_true, Bool.not_eq_false, Bool.not_eq_eq_eq_not, Bool.not_true, Bool.not_false, List.length_map, Int.not_lt, Int.not_le, ne_eq, Decidable.not_not] at hc1
    refine vc_seq fun K4 hK4 => ?_
    refine vc_region ?_
    refine vo_assign_pv rfl rfl ?_
    refine vo_nil ?_
    refine hK4 _ ?_
    refine vc_ret ?_
    change retPv _ _ _ _ _
    refine retPv_mk rfl rfl rfl ⟨?_, rfl⟩
    refine (congrArg (fun b => [bo b]) (?_ : _ = _) : [bo _] = [bo _])
    exact bF fun h => by subst h; omega
  · try simp only [decide_eq_true_eq, decide_eq_false_iff_not, beq_iff_eq, bne_iff_ne, beq_eq_false_iff_ne, bne_eq_false_iff_eq, Bool.not_eq_true, Bool.not_eq_false, Bool.not_eq_eq_eq_not, Bool.not_true, Bool.not_false, List.length_map, Int.not_lt, Int.not_le, ne_eq, Decidable.not_not] at hc1
    refine vc_skip ?_
    refine hK2 _ ?_
    refine vc_seq fun K5 hK5 => ?_
    refine vc_seq fun K6 hK6 => ?_
    refine vc_region ?_
    refine vo_assign_pv rfl rfl ?_
    refine vo_nil ?_
    refine hK6 _ ?_
    refine vc_block ?_
    refine vc_stN ?_
    refine vc_loopF [0, 1] [5] [.pv false (.sl nl0 1 (a.map intP)), .pv false (.sl nl1 1 (b.map intP))] _ (fun mz vs => ∃ (k : Nat), mz = a.length - k ∧ (k ≤ a.length) ∧ (a.take k = b.take k) ∧ vs = [i64 k]) (a.length) rfl rfl (le_len hC rfl) ⟨rfl, rfl, rfl⟩ ⟨0, rfl, Nat.zero_le _, rfl, rfl⟩ ?_
    rintro mz vs - ⟨k, rfl, hk, hf, rfl⟩
    refine vc_stN ?_
    refine vc_seq fun K7 hK7 => ?_
    refine vc_seq fun K8 hK8 => ?_
    refine vc_region ?_
    refine vo_move_pv rfl rfl ?_
    refine vo_move_pv rfl rfl ?_
    refine vo_len_pv rfl rfl Try.underlying50 ?_
    refine vo_binI rfl rfl rfl rfl trivial ?_
    refine vo_nil ?_
    refine hK8 _ ?_
    refine vc_cond rfl (fun hc2 => ?_) (fun hc2 => ?_)
    · try simp only [decide_eq_true_eq, decide_eq_false_iff_not, beq_iff_eq, bne_iff_ne, beq_eq_false_iff_ne, bne_eq_false_iff_eq, Bool.not_eq_true, Bool.not_eq_false, Bool.not_eq_eq_eq_not, Bool.not_true, Bool.not_false, List.length_map, Int.not_lt, Int.not_le, ne_eq, Decidable.not_not] at hc2
      refine vc_skip ?_
      refine hK7 _ ?_
      refine vc_seq fun K9 hK9 => ?_
      refine vc_block ?_
      refine vc_seq fun K10 hK10 => ?_
      refine vc_draw (by kernel_rfl) ?_
      change VD _ _ _ 9 _ _ _
      refine vd_light 0 rfl rfl rfl (by kernel_rfl) (by kernel_rfl) (by kernel_rfl) (wnt_none rfl) (lt_move_pv rfl) ?_
      refine vd_light 1 rfl rfl rfl (by kernel_rfl) (by kernel_rfl) (by kernel_rfl) (wnt_none rfl) (lt_move_pv rfl) ?_
      refine vd_light 2 rfl rfl rfl (by kernel_rfl) (by kernel_rfl) (by kernel_rfl) (wnt_none rfl) (lt_index_pv (.int .i64 0) rfl rfl E50.und inf3 sz3 sd sd) ?_
      simp only [Int.toNat_natCast, Int.toNat_zero, getD_ints, getD_intss, getD_bools, getD_bytes, PV.cells]
      refine vd_light 3 rfl rfl rfl (by kernel_rfl) (by kernel_rfl) (by kernel_rfl) (wnt_none rfl) (lt_load_adr rfl Try.underlying3 rfl) ?_
      refine vd_light 4 rfl rfl rfl (by kernel_rfl) (by kernel_rfl) (by kernel_rfl) (wnt_none rfl) (lt_move_pv rfl) ?_
      refine vd_light 5 rfl rfl rfl (by kernel_rfl) (by kernel_rfl) (by kernel_rfl) (wnt_none rfl) (lt_move_pv rfl) ?_
      refine vd_light 6 rfl rfl rfl (by kernel_rfl) (by kernel_rfl) (by kernel_rfl) (wnt_none rfl) (lt_index_pv (.int .i64 0) rfl rfl E50.und inf3 sz3 sd sd) ?_
      simp only [Int.toNat_natCast, Int.toNat_zero, getD_ints, getD_intss, getD_bools, getD_bytes, PV.cells]
      refine vd_light 7 rfl rfl rfl (by kernel_rfl) (by kernel_rfl) (by kernel_rfl) (wnt_none rfl) (lt_load_adr rfl Try.underlying3 rfl) ?_
      refine vd_light 8 rfl rfl rfl (by kernel_rfl) (by kernel_rfl) (by kernel_rfl) (wnt_none rfl) (lt_binI rfl rfl rfl trivial) ?_
      refine vd_nil (by kernel_rfl) ?_
      refine hK10 _ ?_
      refine vc_cond rfl (fun hc3 => ?_) (fun hc3 => ?_)
      · try simp only [decide_eq_true_eq, decide_eq_false_iff_not, beq_iff_eq, bne_iff_ne, beq_eq_false_iff_ne, bne_eq_false_iff_eq, Bool.not_eq_true, Bool.not_eq_false, Bool.not_eq_eq_eq_not, Bool.not_true, Bool.not_false, List.length_map, Int.not_lt, Int.not_le, ne_eq, Decidable.not_not] at hc3
        refine vc_seq fun K11 hK11 => ?_
        refine vc_region ?_
        refine vo_assign_pv rfl rfl ?_
        refine vo_nil ?_
        refine hK11 _ ?_
        refine vc_ret ?_
        change retPv _ _ _ _ _
        refine retPv_mk rfl rfl rfl ⟨?_, rfl⟩
        refine (congrArg (fun b => [bo b]) (?_ : _ = _) : [bo _] = [bo _])
        exact bF fun h => hc3 ((take_eq_succ (by omega) (by omega) 0).1 (take_eq_of h (k+1))).2
      · try simp only [decide_eq_true_eq, decide_eq_false_iff_not, beq_iff_eq, bne_iff_ne, beq_eq_false_iff_ne, bne_eq_false_iff_eq, Bool.not_eq_true, Bool.not_eq_false, Bool.not_eq_eq_eq_not, Bool.not_true, Bool.not_false, List.length_map, Int.not_lt, Int.not_le, ne_eq, Decidable.not_not] at hc3
        refine vc_skip ?_
        refine hK9 _ ?_
        refine vc_region ?_
        refine vo_move_pv rfl rfl ?_
        refine vo_binI rfl rfl rfl rfl sd ?_
        refine vo_assign_pv rfl rfl ?_
        refine vo_nil ?_
        change againF _ _ _ _ _ _ _ _ _
        refine againF_mk rfl rfl rfl rfl rfl rfl ⟨_, ?_, k + 1, rfl, ?_, ?_, rfl⟩
        · omega
        · omega
        · exact (take_eq_succ (by omega) (by omega) 0).2 ⟨hf, hc3⟩
    · try simp only [decide_eq_true_eq, decide_eq_false_iff_not, beq_iff_eq, bne_iff_ne, beq_eq_false_iff_ne, bne_eq_false_iff_eq, Bool.not_eq_true, Bool.not_eq_false, Bool.not_eq_eq_eq_not, Bool.not_true, Bool.not_false, List.length_map, Int.not_lt, Int.not_le, ne_eq, Decidable.not_not] at hc2
      refine vc_exit ?_
      refine hK5 _ ?_
      refine vc_seq fun K12 hK12 => ?_
      refine vc_region ?_
      refine vo_assign_pv rfl rfl ?_
      refine vo_nil ?_
      refine hK12 _ ?_
      refine vc_ret ?_
      change retPv _ _ _ _ _
      refine retPv_mk rfl rfl rfl ⟨?_, rfl⟩
      refine (congrArg (fun b => [bo b]) (?_ : _ = _) : [bo _] = [bo _])
      rw [take_all (by omega), take_all (by omega)] at hf; exact bT hf


theorem toIntS_sat {nl : Option Bool} {a : List Int} (ha : a.length < 1000000000) : SatAt Try.prog 74 [.pv false (.sl nl 1 (a.map intP))] [] (fun res rows => res = [.ref 0] ∧ rows = [Row.own 3 1 (some false) true ((a).map intP)]) := by
  refine sat_entry_g (ts := [2]) Try.func74 rfl rfl (by decide) (Nat.le_of_ble_eq_true rfl) fun C hC => ?_
  rw [Try.ntmps74]
  replace hC : C.nb = 0 := hC
  refine vc_seq fun K1 hK1 => ?_
  refine vc_region ?_
  refine vo_assign_pv rfl rfl ?_
  refine vo_nil ?_
  refine hK1 _ ?_
  refine vc_seq fun K2 hK2 => ?_
  refine vc_region ?_
  refine vo_move_pv rfl rfl ?_
  refine vo_len_pv rfl rfl Try.underlying50 ?_
  refine vo_make E50 rfl rfl rfl sd sd sd ?_
  refine vo_assign_ref rfl rfl ?_
  refine vo_nil ?_
  refine hK2 _ ?_
  refine vc_seq fun K3 hK3 => ?_
  refine vc_seq fun K4 hK4 => ?_
  refine vc_region ?_
  refine vo_assign_pv rfl rfl ?_
  refine vo_nil ?_
  refine hK4 _ ?_
  refine vc_block ?_
  refine vc_stN ?_
  refine vc_loop [0, 3, 4] (fun mz vs rows => ∃ (k : Nat), mz = a.length - k ∧ (k ≤ a.length) ∧ vs = [.pv false (.sl nl 1 (a.map intP)), .ref 0, i64 k] ∧ rows = [Row.own 3 1 (some false) true ((a.take k ++ List.replicate (a.length - k) 0).map intP)]) (a.length) (le_len hC rfl) ⟨rfl, rfl⟩ ⟨0, rfl, Nat.zero_le _, rfl, (row1_eq (by simp))⟩ ?_
  rintro mz vs rows - - ⟨k, rfl, hk, rfl, rfl⟩
  refine vc_seq fun K5 hK5 => ?_
  refine vc_seq fun K6 hK6 => ?_
  refine vc_region ?_
  refine vo_move_pv rfl rfl ?_
  refine vo_move_pv rfl rfl ?_
  refine vo_len_pv rfl rfl Try.underlying50 ?_
  refine vo_binI rfl rfl rfl rfl trivial ?_
  refine vo_nil ?_
  refine hK6 _ ?_
  refine vc_cond rfl (fun hc1 => ?_) (fun hc1 => ?_)
  · try simp only [decide_eq_true_eq, decide_eq_false_iff_not, beq_iff_eq, bne_iff_ne, beq_eq_false_iff_ne, bne_eq_false_iff_eq, Bool.not_eq_true, Bool.not_eq_false, Bool.not_eq_eq_eq_not, Bool.not_true, Bool.not_false, List.length_map, Int.not_lt, Int.not_le, ne_eq, Decidable.not_not] at hc1
    refine vc_skip ?_
    refine hK5 _ ?_
    refine vc_seq fun K7 hK7 => ?_
    refine vc_block ?_
    refine vc_region ?_
    refine vo_move_ref rfl rfl ?_
    refine vo_move_pv rfl rfl ?_
    refine vo_move_pv rfl rfl ?_
    refine vo_move_pv rfl rfl ?_
    refine vo_index_pv (.int .i64 0) rfl rfl rfl E50.und inf3 sz3 sd sd ?_
    simp only [Int.toNat_natCast, Int.toNat_zero, getD_ints, getD_intss, getD_bools, getD_bytes, PV.cells]
    refine vo_load_adr rfl rfl Try.underlying3 rfl ?_
    refine vo_index_ref rfl rfl rfl rfl E50.und inf3 sz3 sd sd ?_
    try simp only [Int.toNat_natCast]
    refine vo_store_own rfl rfl rfl inf3 sz3 (by decide) rfl sd ?_
    try simp only [set_ints, set_intss, set_bools, rep_bools, rep_ints, Int.toNat_natCast, Int.toNat_zero]
    refine vo_nil ?_
    refine hK7 _ ?_
    refine vc_region ?_
    refine vo_move_pv rfl rfl ?_
    refine vo_binI rfl rfl rfl rfl sd ?_
    refine vo_assign_pv rfl rfl ?_
    refine vo_nil ?_
    change again _ _ _ _ _ _
    refine again_mk rfl rfl rfl rfl ⟨_, ?_, k + 1, rfl, ?_, rfl, (rows_eq (g := intP) (fill_set0 a k (by omega) 0 _))⟩
    · omega
    · omega
  · try simp only [decide_eq_true_eq, decide_eq_false_iff_not, beq_iff_eq, bne_iff_ne, beq_eq_false_iff_ne, bne_eq_false_iff_eq, Bool.not_eq_true, Bool.not_eq_false, Bool.not_eq_eq_eq_not, Bool.not_true, Bool.not_false, List.length_map, Int.not_lt, Int.not_le, ne_eq, Decidable.not_not] at hc1
    refine vc_exit ?_
    refine hK3 _ ?_
    refine vc_seq fun K8 hK8 => ?_
    refine vc_region ?_
    refine vo_move_ref rfl rfl ?_
    refine vo_assign_ref rfl rfl ?_
    refine vo_nil ?_
    refine hK8 _ ?_
    refine vc_ret ?_
    change retG _ _ _ _ _
    refine retG_one 0 hC rfl rfl rfl rfl rfl ?_
    exact ⟨rfl, rows_eq (g := intP) (by rw [take_all (by omega), show a.length - k = 0 by omega]; simp)⟩


theorem szIntS_sat {nl0 : Option Bool} {a : List Int} {left : Int}  (ha : a.length ≤ 9223372036854775807) (h0 : 0 ≤ left) (h1 : left ≤ 1048576) : SatAt Try.prog 71 [.pv false (.sl nl0 1 (a.map intP)), i64 left] [] (fun res rows => res = [i64 (if left - a.length < 0 then -1 else left - a.length)] ∧ rows = []) := by
  refine sat_entry (ts := [4]) Try.func71 rfl rfl (by decide) (Nat.le_of_ble_eq_true rfl) fun C hC => ?_
  rw [Try.ntmps71]
  replace hC : C.nb = 0 := hC
  refine vc_seq fun K1 hK1 => ?_
  refine vc_region ?_
  refine vo_assign_pv rfl rfl ?_
  refine vo_nil ?_
  refine hK1 _ ?_
  refine vc_seq fun K2 hK2 => ?_
  refine vc_region ?_
  refine vo_move_pv rfl rfl ?_
  refine vo_move_pv rfl rfl ?_
  refine vo_len_pv rfl rfl Try.underlying50 ?_
  refine vo_binI rfl rfl rfl rfl sd ?_
  refine vo_assign_pv rfl rfl ?_
  refine vo_nil ?_
  refine hK2 _ ?_
  refine vc_seq fun K3 hK3 => ?_
  refine vc_seq fun K4 hK4 => ?_
  refine vc_region ?_
  refine vo_move_pv rfl rfl ?_
  refine vo_binI rfl rfl rfl rfl trivial ?_
  refine vo_nil ?_
  refine hK4 _ ?_
  refine vc_cond rfl (fun hc1 => ?_) (fun hc1 => ?_)
  · try simp only [decide_eq_true_eq, decide_eq_false_iff_not, beq_iff_eq, bne_iff_ne, beq_eq_false_iff_ne, bne_eq_false_iff_eq, Bool.not_eq_true, Bool.not_eq_false, Bool.not_eq_eq_eq_not, Bool.not_true, Bool.not_false, List.length_map, Int.not_lt, Int.not_le, ne_eq, Decidable.not_not] at hc1
    refine vc_seq fun K5 hK5 => ?_
    refine vc_region ?_
    refine vo_assign_pv rfl rfl ?_
    refine vo_nil ?_
    refine hK5 _ ?_
    refine vc_ret ?_
    change retPv _ _ _ _ _
    refine retPv_mk rfl rfl rfl ⟨?_, rfl⟩
    refine (congrArg (fun b => [i64 b]) (?_ : _ = _) : [i64 _] = [i64 _])
    rw [if_pos (by omega)]
  · try simp only [decide_eq_true_eq, decide_eq_false_iff_not, beq_iff_eq, bne_iff_ne, beq_eq_false_iff_ne, bne_eq_false_iff_eq, Bool.not_eq_true, Bool.not_eq_false, Bool.not_eq_eq_eq_not, Bool.not_true, Bool.not_false, List.length_map, Int.not_lt, Int.not_le, ne_eq, Decidable.not_not] at hc1
    refine vc_skip ?_
    refine hK3 _ ?_
    refine vc_seq fun K6 hK6 => ?_
    refine vc_region ?_
    refine vo_move_pv rfl rfl ?_
    refine vo_assign_pv rfl rfl ?_
    refine vo_nil ?_
    refine hK6 _ ?_
    refine vc_ret ?_
    change retPv _ _ _ _ _
    refine retPv_mk rfl rfl rfl ⟨?_, rfl⟩
    refine (congrArg (fun b => [i64 b]) (?_ : _ = _) : [i64 _] = [i64 _])
    rw [if_neg (by omega)]; simp

end Go.Vl


namespace Go.Vl
set_option linter.unusedVariables false
set_option linter.unusedSimpArgs false
open Go.Proofs

def belR (b : List (List Int)) (c : Int) : List Int := if VB b ∧ 0 ≤ c ∧ c < b.length then belL b c.toNat else []
def OKLs (ls : List (List Int)) : Prop := (∀ l ∈ ls, OKL l 12) ∧ ls.length ≤ 6
instance {ls : List (List Int)} : Decidable (OKLs ls) := by unfold OKLs; infer_instance
def KeepP (long short : List Int) : Prop := OKL long 12 ∧ OKL short 12 ∧ kpN short long 0 = short.length
instance {a b : List Int} : Decidable (KeepP a b) := by unfold KeepP; infer_instance
def OC (b s : List (List Int)) : Prop := VS b s ∧ ∀ j, j < s.length → ∀ i, i < j → (s.getD i []).length > 0 → (s.getD j []).length > 0 → (i : Int) ∈ abvL b j
noncomputable instance {a b : List (List Int)} : Decidable (OC a b) := Classical.propDecidable _
end Go.Vl


namespace Go.Vl
set_option linter.unusedVariables false
set_option linter.unusedSimpArgs false
open Go.Proofs

theorem VB.take {b : List (List Int)} {k : Nat} (h : VB b) (h1 : 1 ≤ k) (h2 : k ≤ b.length) : VB (b.take k) := by
  obtain ⟨a1, a2, a3, a4⟩ := h
  have e : ∀ i, i < k → (b.take k).getD i [] = b.getD i [] := fun i hi => by simp [List.getD, List.getElem?_take, hi]
  have l : (b.take k).length = k := by rw [List.length_take]; omega
  exact ⟨by omega, by omega, by rw [e 0 (by omega)]; exact a3, fun i hi h0 => by rw [e i (by omega)]; exact a4 i (by omega) h0⟩
end Go.Vl


/- From a function's contract to the row of a law over bytes. -/
namespace Go.Vl
set_option linter.unusedVariables false
set_option linter.unusedSimpArgs false
open Go.RowKit Go.WideShapes

/-- What is known of bytes that come in. -/
def BytesAt (w : World) (a0 : Option Addr) (len cap : Nat) : Prop :=
  (a0 = none ∧ len = 0 ∧ cap = 0) ∨ ∃ (x : Addr) (zs : List Int), a0 = some x ∧ x.spot = none ∧ x.block < w.heap.size ∧ len ≤ cap ∧ zs.length = cap ∧
    (∀ i, i < zs.length → w.cell? (x.add i) = some (.int .u8 (zs.getD i 0))) ∧ ∀ n ∈ zs, (Lit.int .u8 n).wf = true

end Go.Vl


/- From a function's contract to the row of a law over lists of numbers, and numbers. -/
namespace Go.Vl
set_option linter.unusedVariables false
set_option linter.unusedSimpArgs false
open Go.RowKit Go.WideShapes Go.ChangeShapes

/-- The setting of a law's call. -/
def C0 (w : World) : Ctx := ⟨w, fun b => b < w.heap.size, 0, fun _ => default⟩
def G0 (w : World) : Bool → Nat → Prop := Gd (C0 w) [] (fun _ => default) w
theorem G0_of {w : World} {b : Nat} (h : b < w.heap.size) : G0 w false b := by
  refine ⟨h, ?_, fun _ => .inl h, fun e => by cases e⟩
  rintro ⟨id, ⟨r, hr, _⟩, _⟩
  simp at hr

theorem law_gen {P : Program} {f : FuncId} {w : World} {args : List SV} {vals : Array Value} (hl : vals.size = args.length)
    (hv : ∀ (j : Nat) (a : SV), args[j]? = some a → RS w (G0 w) (fun _ => default) 0 a (vals.getD j undef))
    (h : SatAt P f args [] (fun res rows => res = [bo true] ∧ rows = [])) :
    Calls P f vals w fun e w' => e = .returned (.bool true) ∧ Below w.heap.size w w' := by
  have hsim : SimM (C0 w) ⟨vals.size, enumE 0 args, []⟩ (fun _ => default) ⟨vals, []⟩ w := {
    defs := rfl
    size := rfl
    os := rfl
    tape := rfl
    output := rfl
    hsz := Nat.le_refl _
    old := fun _ _ _ => rfl
    bor := fun id hid => by cases hid
    nbl := Nat.zero_le _
    newb := fun id b _ ⟨r, hr, _⟩ => by simp at hr
    dist := fun i j b ⟨r, hr, _⟩ => by simp at hr
    rows := fun id r hr => by simp at hr
    env := fun t => by
      show RS _ _ _ _ (look (enumE 0 _) t) _
      rw [look_enumE]
      simp only [Nat.zero_le, if_true, Nat.sub_zero]
      cases ha : args[t]? with
      | none => exact .any _
      | some a => exact hv t a ha }
  refine (h (C0 w) (fun _ => default) vals rfl (fun b hb => hb) hl hsim).mono fun e w' hx => ?_
  obtain ⟨us, res, rows', m', rfl, hus, hs, rfl, rfl⟩ := hx
  have hv := hs.env 0
  have h1 : us.size = 1 := hus
  refine ⟨?_, hs.os, hs.tape, hs.output, hs.hsz, fun k hk => hs.old k hk (fun id hid => by cases hid)⟩
  have hv : RS w' (Gd (C0 w) [] m' w') m' 0 (bo true) (us.getD 0 undef) := hv
  have hb := hv.pv_inv
  unfold pack
  rw [dif_pos h1]
  simp only [Array.getD, h1, Nat.lt_succ_self, dif_pos, Nat.zero_lt_one] at hb
  cases hu : us[0]
  all_goals (simp only [Array.getInternal_eq_getElem, hu] at hb; cases hb)
  rfl

theorem cell_block {w : World} {a : Addr} {v : Value} (h : w.cell? a = some v) : a.block < w.heap.size := by
  unfold World.cell? at h
  rcases Nat.lt_or_ge a.block w.heap.size with h3 | h3
  · exact h3
  · rw [Array.getElem?_eq_none h3] at h; cases h

theorem addr_add (a : Addr) (i : Nat) (hs : a.spot = none) : a.add i = ⟨a.block, a.off + i, none⟩ := by
  obtain ⟨b, o, s⟩ := a
  simp only at hs
  subst hs
  unfold Addr.add
  split
  · rename_i h; simp [h]
  · rfl

section
variable {H : Type} {enc : TypeId × Value → H} {P : Program} {w : World} {base : Nat} {held : Bool}
end
end Go.Vl


/- Arguments of any type of numbers, truth values, slices and structs, opened by their types. -/
namespace Go.Vl
set_option linter.unusedVariables false
set_option linter.unusedSimpArgs false
open Go.RowKit Go.ChangeShapes Go.WideShapes Go.ChangeAt

/-- A value of the type reads as one of the values that pv tells. -/
def Opens (P : Program) (t : TypeId) (k : Nat) {α : Type} (pv : α → PV) (good : α → Prop) : Prop :=
  ∀ (H : Type) (enc : TypeId × Value → H) (w : World) (base : Nat) (held : Bool) (fuel : Nat) (cs : List Value) (x : DataW H × List MemPlace), DataW.trod enc P w base (fun _ => true) held fuel t cs = some x →
    ∃ a, good a ∧ (pv a).fits k ∧ cs.length = k ∧ ∀ (j : Nat) (c : PV) (v : Value), (pv a).cells[j]? = some c → cs[j]? = some v → RP w (G0 w false) c v

def i64R (n : Int) : Prop := -9223372036854775808 ≤ n ∧ n ≤ 9223372036854775807

theorem opens_int {P : Program} {t : TypeId} (ht : P.underlying t = some (.int .i64)) : Opens P t 1 intP i64R := by
  intro H enc w base held fuel cs x h
  obtain ⟨n, hcs, hx, hw⟩ := DataW.trod_int ht h
  subst hcs
  refine ⟨n, ?_, fits_of rfl, rfl, fun j c v hc hv => ?_⟩
  · simp only [Lit.wf, IntKind.signed, IntKind.bits, IntKind.min, IntKind.max, Bool.and_eq_true, decide_eq_true_eq] at hw
    simpa [i64R] using hw
  · match j, hc, hv with
    | 0, hc, hv => cases hc; cases hv; exact .int _ _

theorem opens_bool {P : Program} {t : TypeId} (ht : P.underlying t = some .bool) : Opens P t 1 boolP (fun _ => True) := by
  intro H enc w base held fuel cs x h
  cases fuel with
  | zero => simp [DataW.trod] at h
  | succ n =>
    unfold DataW.trod at h
    rw [ht] at h
    have hcs : ∃ b, cs = [.bool b] := by split at h <;> simp_all
    obtain ⟨b, rfl⟩ := hcs
    refine ⟨b, trivial, fits_of rfl, rfl, fun j c v hc hv => ?_⟩
    match j, hc, hv with
    | 0, hc, hv => cases hc; cases hv; exact .bool _

theorem opens_map {P : Program} {t k : Nat} {α β : Type} {pv : α → PV} {pv' : β → PV} {good : α → Prop} {good' : β → Prop} (h : Opens P t k pv good) (g : α → β) (hp : ∀ a, pv' (g a) = pv a) (hg : ∀ a, good a → good' (g a)) : Opens P t k pv' good' := by
  intro H enc w base held fuel cs x hx
  obtain ⟨a, h1, h2, h3, h4⟩ := h H enc w base held fuel cs x hx
  exact ⟨g a, hg a h1, by rw [hp]; exact h2, h3, by rw [hp]; exact h4⟩

/-- A list by functions on its places. -/
theorem opens_slice {P : Program} {t e : TypeId} {k : Nat} {α : Type} {pv : α → PV} {good : α → Prop} (ht : P.underlying t = some (.slice e)) (hc : P.cellsOf e = k) (hk : 0 < k) (he : Opens P e k pv good) :
    Opens P t 1 (fun l : List α => .sl none k (l.map pv)) (fun l => l.length ≤ 9223372036854775807 ∧ ∀ a ∈ l, good a) := by
  intro H enc w base held fuel cs x h
  have hone : ∀ (l : List α) (v : Value), RP w (G0 w false) (.sl none k (l.map pv)) v → cs = [v] → ∀ (j : Nat) (c : PV) (u : Value), (PV.sl none k (l.map pv)).cells[j]? = some c → cs[j]? = some u → RP w (G0 w false) c u := by
    intro l v hr hcs j c u hc hu
    subst hcs
    match j, hc, hu with
    | 0, hc, hu => cases hc; cases hu; exact hr
  rcases DataW.trod_slice ht h with ⟨rfl, _⟩ | ⟨a, len, cap, elems, rest, n, _, rfl, _, hb, hl, hm, hel, hge, _, _⟩
  · exact ⟨[], ⟨by simp, by simp⟩, fits_of rfl, rfl, hone [] _ (.nilsl _ _ (by simp)) rfl⟩
  · have hrd : ∀ i, i < len → ∃ (b : α) (ws : List Value), good b ∧ (pv b).fits k ∧ ws.length = k ∧ (∀ (j : Nat) (c : PV) (v : Value), (pv b).cells[j]? = some c → ws[j]? = some v → RP w (G0 w false) c v) ∧ ∀ j, j < k → w.cell? ((a.add (i * k)).add j) = ws[j]? := by
      intro i hi
      have h1 := hge i hi
      rw [List.getElem?_eq_getElem (by omega), Option.bind_eq_some_iff] at h1
      obtain ⟨ws, h2, h3⟩ := h1
      obtain ⟨b, g1, g2, g3, g4⟩ := he H enc w base held n ws _ h3
      rw [hc] at h2
      obtain ⟨_, q2, q3⟩ := World.cells?_some h2
      exact ⟨b, ws, g1, g2, g3, g4, q3⟩
    have hex : ∀ i, ∃ (q : Option (α × List Value)), i < len → ∃ (b : α) (ws : List Value), q = some (b, ws) ∧ good b ∧ (pv b).fits k ∧ ws.length = k ∧ (∀ (j : Nat) (c : PV) (v : Value), (pv b).cells[j]? = some c → ws[j]? = some v → RP w (G0 w false) c v) ∧ ∀ j, j < k → w.cell? ((a.add (i * k)).add j) = ws[j]? := by
      intro i
      rcases Nat.lt_or_ge i len with hi | hi
      · obtain ⟨b, ws, h1, h2, h3, h4, h5⟩ := hrd i hi
        exact ⟨some (b, ws), fun _ => ⟨b, ws, rfl, h1, h2, h3, h4, h5⟩⟩
      · exact ⟨none, fun h => by omega⟩
    obtain ⟨q, hq⟩ := Classical.axiomOfChoice hex
    let l : List α := ((List.range len).filterMap q).map (·.1)
    have hfm : ∀ n, n ≤ len → ((List.range n).filterMap q).length = n ∧ ∀ i, i < n → ((List.range n).filterMap q)[i]? = q i := by
      intro n
      induction n with
      | zero => intro _; exact ⟨rfl, fun i h => by omega⟩
      | succ n ih =>
        intro hn
        obtain ⟨ih1, ih2⟩ := ih (by omega)
        obtain ⟨b, ws, hqn, _⟩ := hq n (by omega)
        rw [List.range_succ, List.filterMap_append]
        simp only [List.filterMap_cons, hqn, List.filterMap_nil]
        refine ⟨by simp [ih1], fun i hi => ?_⟩
        rw [List.getElem?_append]
        rcases Nat.lt_or_ge i n with h1 | h1
        · rw [if_pos (by omega)]; exact ih2 i h1
        · have : i = n := by omega
          subst this
          rw [if_neg (by omega), ih1, Nat.sub_self]
          exact hqn.symm
    obtain ⟨hll, hlg⟩ := hfm len (Nat.le_refl _)
    have hlen : l.length = len := by simp [l, hll]
    have hget : ∀ (i : Nat) (b : α), l[i]? = some b → i < len ∧ ∃ ws : List Value, good b ∧ (pv b).fits k ∧ ws.length = k ∧ (∀ (j : Nat) (c : PV) (v : Value), (pv b).cells[j]? = some c → ws[j]? = some v → RP w (G0 w false) c v) ∧ ∀ j, j < k → w.cell? ((a.add (i * k)).add j) = ws[j]? := by
      intro i b hb
      have hi : i < len := by rw [← hlen]; exact (List.getElem?_eq_some_iff.1 hb).1
      refine ⟨hi, ?_⟩
      simp only [l, List.getElem?_map, hlg i hi, Option.map_eq_some_iff] at hb
      obtain ⟨y, hy, rfl⟩ := hb
      obtain ⟨b, ws, h1, h2⟩ := hq i hi
      rw [hy] at h1
      cases h1
      exact ⟨ws, h2⟩
    refine ⟨l, ⟨by rw [hlen]; simp only [maxLen] at hm; omega, fun b hb => ?_⟩, fits_of rfl, rfl, hone l _ ?_ rfl⟩
    · obtain ⟨i, hi⟩ := List.getElem?_of_mem hb
      exact (hget i b hi).2.choose_spec.1
    · have hsp : 0 < len → a.spot = none := by
        intro h0
        have hl0 : 0 < l.length := by omega
        obtain ⟨_, ws, _, _, h3, _, h5⟩ := hget 0 _ (List.getElem?_eq_getElem hl0)
        have h6 := h5 0 hk
        rw [List.getElem?_eq_getElem (by omega)] at h6
        have := World.cell?_spot h6
        simpa [Addr.add] using this
      have hW : ∀ i, ∃ (f : Nat → Value), ∀ b, l[i]? = some b → ∀ (j : Nat) (c : PV), (pv b).cells[j]? = some c → w.cell? ⟨a.block, a.off + i * k + j, none⟩ = some (f j) ∧ RP w (G0 w false) c (f j) := by
        intro i
        cases hb : l[i]? with
        | none => exact ⟨fun _ => undef, fun b h => by cases h⟩
        | some b =>
          obtain ⟨hi, ws, _, h2, h3, h4, h5⟩ := hget i b hb
          refine ⟨fun j => ws.getD j undef, fun b' h j c hc => ?_⟩
          cases h
          have hj : j < k := by rw [← h2.1]; exact (List.getElem?_eq_some_iff.1 hc).1
          have hwj : ws[j]? = some (ws.getD j undef) := by rw [List.getD_eq_getElem?_getD, List.getElem?_eq_getElem (by omega)]; rfl
          refine ⟨?_, h4 j c _ hc hwj⟩
          have h6 := h5 j hj
          rw [hwj, addr_add _ _ (hsp (by omega)), addr_add _ _ rfl] at h6
          exact h6
      obtain ⟨f, hf⟩ := Classical.axiomOfChoice hW
      have hpg : ∀ (i : Nat) (y : PV), (l.map pv)[i]? = some y → ∃ b, l[i]? = some b ∧ y = pv b := by
        intro i y hy
        simp only [List.getElem?_map, Option.map_eq_some_iff] at hy
        obtain ⟨b, hb, rfl⟩ := hy
        exact ⟨b, hb, rfl⟩
      refine .sl none k _ a len cap f (by simp) (fun hne => hsp ?_) (by simp [hlen]) hl (fun hne => ?_) (fun i y hy => ?_) (fun i y j c hy hcj => ?_) (fun i y j c hy hcj => ?_)
      · have : (l.map pv).length ≠ 0 := fun h => hne (List.eq_nil_of_length_eq_zero h)
        simp [hlen] at this; omega
      · have h0 : 0 < len := by
          have : (l.map pv).length ≠ 0 := fun h => hne (List.eq_nil_of_length_eq_zero h)
          simp [hlen] at this; omega
        obtain ⟨_, ws, _, _, h3, _, h5⟩ := hget 0 _ (List.getElem?_eq_getElem (show 0 < l.length by omega))
        have h6 := h5 0 hk
        rw [List.getElem?_eq_getElem (by omega)] at h6
        exact G0_of (by have := cell_block h6; simpa [Addr.add] using this)
      · obtain ⟨b, hb, rfl⟩ := hpg i y hy
        obtain ⟨_, ws, _, h2, _⟩ := hget i b hb
        exact h2
      · obtain ⟨b, hb, rfl⟩ := hpg i y hy
        exact (hf i b hb j c hcj).1
      · obtain ⟨b, hb, rfl⟩ := hpg i y hy
        exact (hf i b hb j c hcj).2

/-- Fields one behind another. -/
theorem fields2 {w : World} {G : Nat → Prop} {cs : List Value} {off n1 n2 : Nat} {c1 c2 : List PV} (h1 : c1.length = n1)
    (g1 : ∀ (j : Nat) (c : PV) (v : Value), c1[j]? = some c → ((cs.drop off).take n1)[j]? = some v → RP w G c v) (g2 : ∀ (j : Nat) (c : PV) (v : Value), c2[j]? = some c → ((cs.drop (off + n1)).take n2)[j]? = some v → RP w G c v) (hl2 : c2.length = n2) :
    ∀ (j : Nat) (c : PV) (v : Value), (c1 ++ c2)[j]? = some c → ((cs.drop off).take (n1 + n2))[j]? = some v → RP w G c v := by
  intro j c v hc hv
  rw [List.getElem?_append] at hc
  split at hc
  · rename_i hj
    refine g1 j c v hc ?_
    rw [List.getElem?_take] at hv ⊢
    split at hv
    · rw [if_pos (by omega)]; exact hv
    · cases hv
  · rename_i hj
    have hj2 : j - c1.length < n2 := by rw [← hl2]; exact (List.getElem?_eq_some_iff.1 hc).1
    refine g2 (j - c1.length) c v hc ?_
    rw [List.getElem?_take] at hv ⊢
    rw [if_pos hj2]
    split at hv
    · rw [List.getElem?_drop] at hv ⊢
      rw [← hv]; congr 1; omega
    · cases hv

/-- A struct, field by field, from a place on. -/
def OpenF (P : Program) (off : Nat) (fs : List Field) (k : Nat) {α : Type} (cells : α → List PV) (good : α → Prop) : Prop :=
  ∀ (H : Type) (enc : TypeId × Value → H) (w : World) (base : Nat) (held : Bool) (fuel : Nat) (cs : List Value),
    (∀ (i : Nat) (f : Field), fs[i]? = some f → ∃ x, DataW.trod enc P w base (fun _ => true) held fuel f.type ((cs.drop f.offset).take (P.cellsOf f.type)) = some x) →
    ∃ a, good a ∧ (cells a).length = k ∧ (∀ c ∈ cells a, c.isAgg = false) ∧ ∀ (j : Nat) (c : PV) (v : Value), (cells a)[j]? = some c → ((cs.drop off).take k)[j]? = some v → RP w (G0 w false) c v

theorem openF_nil {P : Program} {off : Nat} : OpenF P off [] 0 (fun _ : Unit => []) (fun _ => True) := by
  intro H enc w base held fuel cs _
  exact ⟨(), trivial, rfl, by simp, fun j c v h => by simp at h⟩

theorem openF_cons {P : Program} {off : Nat} {fs : List Field} {f : Field} {k n : Nat} {α β : Type} {cells : α → List PV} {pv : β → PV} {good : α → Prop} {good2 : β → Prop} (hf : Opens P f.type n pv good2) (ho : f.offset = off) (hn : P.cellsOf f.type = n) (h : OpenF P (off + n) fs k cells good) :
    OpenF P off (f :: fs) (n + k) (fun a : β × α => (pv a.1).cells ++ cells a.2) (fun a => good2 a.1 ∧ good a.2) := by
  intro H enc w base held fuel cs hall
  obtain ⟨a, g1, g2, g3, g4⟩ := h H enc w base held fuel cs (fun i f' hi => hall (i + 1) f' (by simpa using hi))
  obtain ⟨x, hx⟩ := hall 0 f rfl
  rw [ho, hn] at hx
  obtain ⟨b, b1, b2, b3, b4⟩ := hf H enc w base held fuel _ x hx
  refine ⟨(b, a), ⟨b1, g1⟩, by simp [g2, b2.1], fun c hc => ?_, fields2 b2.1 b4 g4 g2⟩
  rcases List.mem_append.1 hc with hc | hc
  · obtain ⟨j, hj⟩ := List.getElem?_of_mem hc
    exact b2.2 j c hj
  · exact g3 c hc

theorem opens_struct {P : Program} {t k : Nat} {fs : Array Field} {α : Type} {cells : α → List PV} {good : α → Prop} (ht : P.underlying t = some (.struct fs)) (hc : P.cellsOf t = k) (h : OpenF P 0 fs.toList k cells good) : Opens P t k (fun a => .agg (cells a)) good := by
  intro H enc w base held fuel cs x hx
  obtain ⟨xs, n, rfl, _, hl, hlen, hf⟩ := DataW.trod_struct ht hx
  rw [hc] at hl
  obtain ⟨a, g1, g2, g3, g4⟩ := h H enc w base held n cs (fun i f hi => by
    have h1 := hf i f (by simpa using hi)
    have hi2 : i < xs.length := by rw [hlen]; simpa using (List.getElem?_eq_some_iff.1 hi).1
    exact ⟨xs[i], by rw [h1]; exact List.getElem?_eq_getElem hi2⟩)
  refine ⟨a, g1, ⟨g2, fun j c hj => g3 c (List.mem_of_getElem? hj)⟩, hl, fun j c v hcj hv => g4 j c v hcj ?_⟩
  have hj : j < k := by rw [← g2]; exact (List.getElem?_eq_some_iff.1 hcj).1
  rw [List.drop_zero, List.getElem?_take, if_pos hj]
  exact hv

/-- The value of an argument of one cell. -/
theorem Opens.one {P : Program} {t : TypeId} {α : Type} {pv : α → PV} {good : α → Prop} (h : Opens P t 1 pv good) (hna : ∀ a, (pv a).cells = [pv a]) {H : Type} {enc : TypeId × Value → H} {w : World} {base : Nat} {held : Bool} {v : Value} {d : DataW H} {ps : List MemPlace} (hv : v.cells.toList = [v])
    (hd : DataW.Trod enc P w base (fun _ => true) held t v d ps) : ∃ a, good a ∧ RP w (G0 w false) (pv a) v := by
  obtain ⟨fuel, hf⟩ := hd
  rw [hv] at hf
  obtain ⟨a, g1, g2, g3, g4⟩ := h H enc w base held fuel _ _ hf
  exact ⟨a, g1, g4 0 _ _ (by rw [hna]; rfl) rfl⟩

/-- The value of an argument that is a struct. -/
theorem Opens.agg {P : Program} {t k : Nat} {α : Type} {cells : α → List PV} {good : α → Prop} (h : Opens P t k (fun a => .agg (cells a)) good) {H : Type} {enc : TypeId × Value → H} {w : World} {base : Nat} {held : Bool} {cs : Array Value} {d : DataW H} {ps : List MemPlace}
    (hd : DataW.Trod enc P w base (fun _ => true) held t (.agg cs) d ps) : ∃ a, good a ∧ RP w (G0 w false) (.agg (cells a)) (.agg cs) := by
  obtain ⟨fuel, hf⟩ := hd
  obtain ⟨a, g1, g2, g3, g4⟩ := h H enc w base held fuel _ _ hf
  refine ⟨a, g1, .agg _ _ ?_ (fun j c hc => g2.2 j c hc) (fun j c v hc hv => g4 j c v hc ?_)⟩
  · have h1 : (cells a).length = k := g2.1
    have h2 : cs.toList.length = k := g3
    rw [h1, ← h2]; simp
  · show cs.toList[j]? = some v
    simpa using hv
end Go.Vl


namespace Go.Vl
set_option linter.unusedVariables false
set_option linter.unusedSimpArgs false
open Go.Proofs

structure OpM where
  who : Int
  name : Int
  value : Int
  gone : Bool
  deriving Inhabited, DecidableEq
abbrev opP (o : OpM) : PV := .agg [.int .i64 o.who, .int .i64 o.name, .int .i64 o.value, .bool o.gone]
abbrev pairP (p : Int × Int) : PV := .agg [.int .i64 p.1, .int .i64 p.2]
structure InstM where
  shares : Bool
  order : List Int
  values : List Int
  own : List (Int × Int)
  deriving Inhabited, DecidableEq
abbrev instP (x : InstM) : PV := .agg [.bool x.shares, .sl none 1 (x.order.map intP), .sl none 1 (x.values.map intP), .sl none 2 (x.own.map pairP)]
structure HeapM where
  keys : List Int
  insts : List InstM
  deriving Inhabited, DecidableEq
abbrev heapP (h : HeapM) : PV := .agg [.sl none 1 (h.keys.map intP), .sl none 4 (h.insts.map instP)]
theorem getD_map0 {α β : Type} (f : α → β) (l : List α) (k : Nat) (d : α) (d' : β) (h : f d = d') : (l.map f).getD k d' = f (l.getD k d) := by
  subst h
  simp only [List.getD, List.getElem?_map]
  cases l[k]? <;> rfl
theorem getD_ops (l : List OpM) (k : Nat) : (l.map opP).getD k (.agg [.int .i64 0, .int .i64 0, .int .i64 0, .bool false]) = opP (l.getD k ⟨0, 0, 0, false⟩) := getD_map0 opP l k ⟨0, 0, 0, false⟩ _ rfl
theorem getD_pairs (l : List (Int × Int)) (k : Nat) : (l.map pairP).getD k (.agg [.int .i64 0, .int .i64 0]) = pairP (l.getD k (0, 0)) := getD_map0 pairP l k (0, 0) _ rfl
theorem getD_insts (l : List InstM) (k : Nat) : (l.map instP).getD k (.agg [.bool false, .sl none 1 [], .sl none 1 [], .sl none 2 []]) = instP (l.getD k ⟨false, [], [], []⟩) := getD_map0 instP l k ⟨false, [], [], []⟩ _ rfl
theorem rep_pairs (n : Nat) : List.replicate n (PV.agg [.int .i64 0, .int .i64 0]) = (List.replicate n ((0, 0) : Int × Int)).map pairP := by simp
theorem set_pairs (l : List (Int × Int)) (i : Nat) (x : Int × Int) : (l.map pairP).set i (pairP x) = (l.set i x).map pairP := by simp [List.map_set]
theorem set_pair1 (l : List (Int × Int)) (i : Nat) (a b : Int) : (l.map pairP).set i (.agg [.int .i64 a, .int .i64 b]) = (l.set i (a, b)).map pairP := set_pairs l i (a, b)
theorem app_pairs (l : List (Int × Int)) (a b : Int) : l.map pairP ++ [.agg [.int .i64 a, .int .i64 b]] = (l ++ [(a, b)]).map pairP := by simp
/-- A copy that is under way. -/
def cpy {α : Type} (d : α) (l : List α) (k : Nat) : List α := l.take k ++ List.replicate (l.length - k) d
theorem cpy_0 {α : Type} (d : α) (l : List α) : cpy d l 0 = List.replicate l.length d := by simp [cpy]
theorem cpy_len {α : Type} (d : α) (l : List α) (k : Nat) (h : k ≤ l.length) : (cpy d l k).length = l.length := by simp [cpy]; omega
theorem cpy_end {α : Type} (d : α) (l : List α) : cpy d l l.length = l := by simp [cpy]
theorem cpy_set {α : Type} (d : α) (l : List α) (k : Nat) (h : k < l.length) : (cpy d l k).set k (l.getD k d) = cpy d l (k + 1) := by
  apply List.ext_getElem?
  intro i
  have hl : (l.take k).length = k := by simp; omega
  have hl2 : (l.take (k+1)).length = k + 1 := by simp; omega
  rw [List.getElem?_set]
  by_cases e : k = i
  · subst e
    rw [if_pos rfl, if_pos (by rw [cpy_len d l k (by omega)]; exact h)]
    simp only [cpy]
    rw [List.getElem?_append_left (by omega), List.getElem?_take, if_pos (by omega)]
    simp [List.getD, List.getElem?_eq_getElem h]
  · rw [if_neg e]
    simp only [cpy]
    rw [List.getElem?_append, List.getElem?_append, hl, hl2]
    by_cases h1 : i < k
    · rw [if_pos h1, if_pos (by omega), List.getElem?_take, List.getElem?_take, if_pos h1, if_pos (by omega)]
    · rw [if_neg h1, if_neg (by omega), List.getElem?_replicate, List.getElem?_replicate]
      by_cases h2 : i < l.length
      · rw [if_pos (by omega), if_pos (by omega)]
      · rw [if_neg (by omega), if_neg (by omega)]
theorem take_eqS {α : Type} {a b : List α} {k : Nat} (d : α) (h : k < a.length) (hb : k < b.length) : a.take (k+1) = b.take (k+1) ↔ a.take k = b.take k ∧ a.getD k d = b.getD k d := by
  have ha : a.take (k+1) = a.take k ++ [a.getD k d] := by rw [List.take_add_one, List.getD, List.getElem?_eq_getElem h]; rfl
  have hbb : b.take (k+1) = b.take k ++ [b.getD k d] := by rw [List.take_add_one, List.getD, List.getElem?_eq_getElem hb]; rfl
  rw [ha, hbb]
  constructor
  · intro he
    have := List.append_inj he (by simp; omega)
    exact ⟨this.1, by simpa using this.2⟩
  · rintro ⟨h1, h2⟩; rw [h1, h2]
def okOp (o : OpM) : Prop := (0 ≤ o.who ∧ o.who ≤ 3) ∧ (0 ≤ o.name ∧ o.name ≤ 9) ∧ (0 ≤ o.value ∧ o.value ≤ 99)
instance (o : OpM) : Decidable (okOp o) := by unfold okOp; exact inferInstance
def VOps (l : List OpM) : Prop := l.length ≤ 40 ∧ ∀ o ∈ l, okOp o
instance (l : List OpM) : Decidable (VOps l) := by unfold VOps; exact inferInstance

theorem isWho_sat {who : Int}   : SatAt Try.prog 66 [i64 who] [] (fun res rows => res = [bo (decide (0 ≤ who ∧ who ≤ 3))] ∧ rows = []) := by
  refine sat_entry_G (rs := [(2, none)]) Try.func66 rfl rfl (Nat.le_of_ble_eq_true rfl) (Nat.le_of_ble_eq_true rfl) (resTs1 trivial) fun C hC => ?_
  rw [Try.ntmps66]
  replace hC : C.nb = 0 := hC
  refine vc_seq fun K1 hK1 => ?_
  refine vc_region ?_
  refine vo_assign_pv rfl rfl ?_
  refine vo_nil ?_
  refine hK1 _ ?_
  refine vc_seq fun K2 hK2 => ?_
  refine vc_region ?_
  refine vo_move_pv rfl rfl ?_
  refine vo_call0 Try.func91 rfl rfl rfl rfl isUpTo_sat ?_
  rintro _ _ ⟨rfl, rfl⟩
  refine ⟨rfl, rfl, .inl rfl, ?_⟩
  refine vo_stM ?_
  refine vo_assign_pv rfl rfl ?_
  refine vo_nil ?_
  refine hK2 _ ?_
  refine vc_ret ?_
  change retQ _ _ _ _ _
  refine retQ_sel [] (srows := []) (.inr rfl) hC rfl rfl rfl rfl rfl rfl rfl ?_
  refine ⟨?_, rfl⟩
  refine (congrArg (fun b => [bo b]) (?_ : _ = _) : [bo _] = [bo _])
  rfl


end Go.Vl


namespace Go.Vl
set_option linter.unusedVariables false
set_option linter.unusedSimpArgs false
open Go.Proofs
open Go.Proofs
theorem opn_int : Opens Try.prog 3 1 intP i64R := opens_int Try.underlying3
theorem opn_bool : Opens Try.prog 4 1 boolP (fun _ => True) := opens_bool Try.underlying4
end Go.Vl


namespace Go.Vl
set_option linter.unusedVariables false
set_option linter.unusedSimpArgs false
open Go.Proofs
open Go.Proofs
theorem opn_lpair : Opens Try.prog 86 2 pairP (fun _ => True) := by
  have h := opens_struct (P := Try.prog) (t := 86) Try.underlying86 (by kernel_rfl) (openF_cons opn_int rfl (show Try.prog.cellsOf 3 = 1 by kernel_rfl) (openF_cons opn_int rfl (show Try.prog.cellsOf 3 = 1 by kernel_rfl) openF_nil))
  exact opens_map h (fun a => (a.1, a.2.1)) (fun _ => rfl) (fun _ _ => trivial)
theorem opn_lpairs : Opens Try.prog 38 1 (fun l : List (Int × Int) => .sl none 2 (l.map pairP)) (fun l => l.length ≤ 9223372036854775807 ∧ ∀ a ∈ l, True) := opens_slice (P := Try.prog) Try.underlying38 (show Try.prog.cellsOf 86 = 2 by kernel_rfl) (by decide) opn_lpair
def nms (l : List (Int × Int)) : List Int := l.map Prod.fst
theorem getD_nms (l : List (Int × Int)) (k : Nat) : (nms l).getD k 0 = (l.getD k (0, 0)).1 := getD_map0 Prod.fst l k (0, 0) 0 rfl
@[simp] theorem nms_len (l : List (Int × Int)) : (nms l).length = l.length := by simp [nms]
theorem findM_nms (n : Int) (l : List (Int × Int)) (k : Nat) (h : k < l.length) : findM n ((nms l).drop k) k = if (l.getD k (0, 0)).1 = n then (k : Int) else findM n ((nms l).drop (k+1)) (k+1) := by
  rw [findM_drop _ _ _ (by rw [nms_len]; exact h), getD_nms]
theorem app_nm1 (l : List (Int × Int)) (k : Nat) (h : k < l.length) : nms (l.take k) ++ [(l.getD k (0, 0)).1] = nms (l.take (k+1)) := by
  have : l.take (k+1) = l.take k ++ [l.getD k (0,0)] := by rw [List.take_add_one, List.getD, List.getElem?_eq_getElem h]; rfl
  rw [this]; simp [nms]
def SPairs (a b : List (Int × Int)) : Prop := a.length ≤ 40 ∧ (nms a).Nodup ∧ a.length = b.length ∧ ∀ p ∈ a, p ∈ b
instance (a b : List (Int × Int)) : Decidable (SPairs a b) := by unfold SPairs; exact inferInstance
theorem findM_pos_iff {n : Int} {l : List Int} : ∀ {k : Int}, 0 ≤ k → 0 ≤ findM n l k → ∃ i, i < l.length ∧ findM n l k = k + i ∧ l.getD i 0 = n ∧ ∀ j, j < i → l.getD j 0 ≠ n := by
  induction l with
  | nil => intro k hk h; simp [findM] at h
  | cons x xs ih =>
    intro k hk h
    by_cases hx : x = n
    · exact ⟨0, by simp, by simp [findM, hx], by simp [hx], fun j hj => by omega⟩
    · have e : findM n (x :: xs) k = findM n xs (k + 1) := by simp [findM, hx]
      rw [e] at h
      obtain ⟨i, hi, h1, h2, h3⟩ := ih (by omega) h
      refine ⟨i + 1, by simp; omega, by rw [e, h1]; push_cast; omega, by simpa using h2, fun j hj => ?_⟩
      cases j with
      | zero => simpa using hx
      | succ j => simpa using h3 j (by omega)
/-- The value that a name has in pairs of different names. -/
theorem pair_at {b : List (Int × Int)} {n : Int} {z : Nat} (hz : findM n (nms b) 0 = z) : z < b.length ∧ (b.getD z (0,0)).1 = n := by
  obtain ⟨i, hi, h1, h2, _⟩ := findM_pos_iff (n := n) (l := nms b) (k := 0) (by omega) (by omega)
  have : i = z := by omega
  subst this
  rw [getD_nms] at h2; rw [nms_len] at hi
  exact ⟨hi, h2⟩
theorem perm_of_sub {α : Type} [DecidableEq α] : ∀ {a b : List α}, a.Nodup → b.length ≤ a.length → (∀ p ∈ a, p ∈ b) → a.Perm b
  | [], b, _, hl, _ => by have : b = [] := List.length_eq_zero_iff.1 (by simpa using hl); subst this; exact .nil
  | x :: xs, b, ha, hl, hs => by
    have hx : x ∈ b := hs x (by simp)
    have h1 : b.Perm (x :: b.erase x) := List.perm_cons_erase hx
    have hn := List.nodup_cons.1 ha
    refine (List.Perm.cons x (perm_of_sub hn.2 ?_ fun p hp => ?_)).trans h1.symm
    · have := h1.length_eq; simp at this hl; omega
    · have hne : p ≠ x := fun e => hn.1 (by rw [← e]; exact hp)
      exact (List.mem_erase_of_ne hne).2 (hs p (by simp [hp]))
theorem pairAt_sat {nl0 : Option Bool} {list : List (Int × Int)} {name : Int} (hlist : list.length < 1000000000)  : SatAt Try.prog 62 [.pv false (.sl nl0 2 (list.map pairP)), i64 name] [] (fun res rows => res = [i64 (findM name (nms list) 0)] ∧ rows = []) := by
  refine sat_entry_G (rs := [(4, none)]) Try.func62 rfl rfl (Nat.le_of_ble_eq_true rfl) (Nat.le_of_ble_eq_true rfl) (resTs1 trivial) fun C hC => ?_
  rw [Try.ntmps62]
  replace hC : C.nb = 0 := hC
  refine vc_seq fun K1 hK1 => ?_
  refine vc_region ?_
  refine vo_assign_pv rfl rfl ?_
  refine vo_nil ?_
  refine hK1 _ ?_
  refine vc_seq fun K2 hK2 => ?_
  refine vc_seq fun K3 hK3 => ?_
  refine vc_region ?_
  refine vo_assign_pv rfl rfl ?_
  refine vo_nil ?_
  refine hK3 _ ?_
  refine vc_block ?_
  refine vc_stM ?_
  refine vc_loopE [0, 1] [5] [] _ _ (fun mz vs rs => ∃ (k : Nat), mz = list.length - k ∧ (k ≤ list.length) ∧ (findM name (nms list) 0 = findM name ((nms list).drop k) k) ∧ vs = [i64 k] ∧ rs = []) (list.length) rfl rfl (le_len hC rfl) ⟨rfl, rfl, rfl⟩ rfl ⟨0, rfl, Nat.zero_le _, rfl, rfl, rfl⟩ ?_
  rintro mz vs rs - - ⟨k, rfl, hk, hf, rfl, rfl⟩
  refine vc_stM ?_
  refine vc_seq fun K4 hK4 => ?_
  refine vc_seq fun K5 hK5 => ?_
  refine vc_region ?_
  refine vo_move_pv rfl rfl ?_
  refine vo_move_pv rfl rfl ?_
  refine vo_len_pv rfl rfl Try.underlying32 ?_
  refine vo_binI rfl rfl rfl rfl trivial ?_
  refine vo_nil ?_
  refine hK5 _ ?_
  refine vc_cond rfl (fun hc1 => ?_) (fun hc1 => ?_)
  · try simp only [decide_eq_true_eq, decide_eq_false_iff_not, beq_iff_eq, bne_iff_ne, beq_eq_false_iff_ne, bne_eq_false_iff_eq, Bool.not_eq_true, Bool.not_eq_false, Bool.not_eq_eq_eq_not, Bool.not_true, Bool.not_false, List.length_map, Int.not_lt, Int.not_le, ne_eq, Decidable.not_not] at hc1
    refine vc_skip ?_
    refine hK4 _ ?_
    refine vc_seq fun K6 hK6 => ?_
    refine vc_block ?_
    refine vc_seq fun K7 hK7 => ?_
    refine vc_region ?_
    refine vo_move_pv rfl rfl ?_
    refine vo_move_pv rfl rfl ?_
    refine vo_index_pv (.agg [(.int .i64 0), (.int .i64 0)]) rfl rfl rfl E32.und inf37 sz37 sd sd ?_
    simp only [Int.toNat_natCast, Int.toNat_zero, getD_ints, getD_intss, getD_bools, getD_bytes, PV.cells, getD_ops, getD_pairs, getD_insts]
    refine vo_fieldAddr_adr rfl rfl Try.underlying37 rfl inf3 (by rw [sz3]; decide) ?_
    refine vo_load_adr rfl rfl Try.underlying3 rfl ?_
    refine vo_move_pv rfl rfl ?_
    refine vo_binI rfl rfl rfl rfl trivial ?_
    refine vo_nil ?_
    refine hK7 _ ?_
    refine vc_cond rfl (fun hc2 => ?_) (fun hc2 => ?_)
    · try simp only [decide_eq_true_eq, decide_eq_false_iff_not, beq_iff_eq, bne_iff_ne, beq_eq_false_iff_ne, bne_eq_false_iff_eq, Bool.not_eq_true, Bool.not_eq_false, Bool.not_eq_eq_eq_not, Bool.not_true, Bool.not_false, List.length_map, Int.not_lt, Int.not_le, ne_eq, Decidable.not_not] at hc2
      refine vc_seq fun K8 hK8 => ?_
      refine vc_region ?_
      refine vo_move_pv rfl rfl ?_
      refine vo_assign_pv rfl rfl ?_
      refine vo_nil ?_
      refine hK8 _ ?_
      refine vc_ret ?_
      change retQ _ _ _ _ _
      refine retQ_sel [] (srows := []) (.inr rfl) hC rfl rfl rfl rfl rfl rfl rfl ?_
      refine ⟨?_, rfl⟩
      refine (congrArg (fun b => [i64 b]) (?_ : _ = _) : [i64 _] = [i64 _])
      rw [hf, findM_nms _ _ _ (by omega), if_pos (by omega)]
    · try simp only [decide_eq_true_eq, decide_eq_false_iff_not, beq_iff_eq, bne_iff_ne, beq_eq_false_iff_ne, bne_eq_false_iff_eq, Bool.not_eq_true, Bool.not_eq_false, Bool.not_eq_eq_eq_not, Bool.not_true, Bool.not_false, List.length_map, Int.not_lt, Int.not_le, ne_eq, Decidable.not_not] at hc2
      refine vc_skip ?_
      refine hK6 _ ?_
      refine vc_region ?_
      refine vo_move_pv rfl rfl ?_
      refine vo_binI rfl rfl rfl rfl sd ?_
      refine vo_assign_pv rfl rfl ?_
      refine vo_nil ?_
      change againE _ _ _ _ _ _ _ _ _ _
      refine againE_mk rfl rfl rfl rfl rfl rfl ⟨_, ?_, k + 1, rfl, ?_, ?_, rfl, rfl⟩
      · omega
      · omega
      · rw [hf, findM_nms _ _ _ (by omega), if_neg (by omega)]; rfl
  · try simp only [decide_eq_true_eq, decide_eq_false_iff_not, beq_iff_eq, bne_iff_ne, beq_eq_false_iff_ne, bne_eq_false_iff_eq, Bool.not_eq_true, Bool.not_eq_false, Bool.not_eq_eq_eq_not, Bool.not_true, Bool.not_false, List.length_map, Int.not_lt, Int.not_le, ne_eq, Decidable.not_not] at hc1
    refine vc_exit ?_
    refine hK2 _ ?_
    refine vc_seq fun K9 hK9 => ?_
    refine vc_region ?_
    refine vo_assign_pv rfl rfl ?_
    refine vo_nil ?_
    refine hK9 _ ?_
    refine vc_ret ?_
    change retQ _ _ _ _ _
    refine retQ_sel [] (srows := []) (.inr rfl) hC rfl rfl rfl rfl rfl rfl rfl ?_
    refine ⟨?_, rfl⟩
    refine (congrArg (fun b => [i64 b]) (?_ : _ = _) : [i64 _] = [i64 _])
    rw [hf, show k = (nms list).length by rw [nms_len]; omega, List.drop_length]; rfl


theorem szPairS_sat {nl0 : Option Bool} {a : List (Int × Int)} {left : Int}  (ha : a.length ≤ 9223372036854775807) (hl : 0 ≤ left ∧ left ≤ 2000000) : SatAt Try.prog 24 [.pv false (.sl nl0 2 (a.map pairP)), i64 left] [] (fun res rows => res = [i64 (if left - (a.length : Int) < 0 then -1 else left - (a.length : Int))] ∧ rows = []) := by
  refine sat_entry_G (rs := [(4, none)]) Try.func24 rfl rfl (Nat.le_of_ble_eq_true rfl) (Nat.le_of_ble_eq_true rfl) (resTs1 trivial) fun C hC => ?_
  rw [Try.ntmps24]
  replace hC : C.nb = 0 := hC
  refine vc_seq fun K1 hK1 => ?_
  refine vc_region ?_
  refine vo_assign_pv rfl rfl ?_
  refine vo_nil ?_
  refine hK1 _ ?_
  refine vc_seq fun K2 hK2 => ?_
  refine vc_region ?_
  refine vo_move_pv rfl rfl ?_
  refine vo_move_pv rfl rfl ?_
  refine vo_len_pv rfl rfl Try.underlying38 ?_
  refine vo_binI rfl rfl rfl rfl sd ?_
  refine vo_assign_pv rfl rfl ?_
  refine vo_nil ?_
  refine hK2 _ ?_
  refine vc_seq fun K3 hK3 => ?_
  refine vc_seq fun K4 hK4 => ?_
  refine vc_region ?_
  refine vo_move_pv rfl rfl ?_
  refine vo_binI rfl rfl rfl rfl trivial ?_
  refine vo_nil ?_
  refine hK4 _ ?_
  refine vc_cond rfl (fun hc1 => ?_) (fun hc1 => ?_)
  · try simp only [decide_eq_true_eq, decide_eq_false_iff_not, beq_iff_eq, bne_iff_ne, beq_eq_false_iff_ne, bne_eq_false_iff_eq, Bool.not_eq_true, Bool.not_eq_false, Bool.not_eq_eq_eq_not, Bool.not_true, Bool.not_false, List.length_map, Int.not_lt, Int.not_le, ne_eq, Decidable.not_not] at hc1
    refine vc_seq fun K5 hK5 => ?_
    refine vc_region ?_
    refine vo_assign_pv rfl rfl ?_
    refine vo_nil ?_
    refine hK5 _ ?_
    refine vc_ret ?_
    change retQ _ _ _ _ _
    refine retQ_sel [] (srows := []) (.inr rfl) hC rfl rfl rfl rfl rfl rfl rfl ?_
    refine ⟨?_, rfl⟩
    refine (congrArg (fun b => [i64 b]) (?_ : _ = _) : [i64 _] = [i64 _])
    rw [if_pos (by omega)]
  · try simp only [decide_eq_true_eq, decide_eq_false_iff_not, beq_iff_eq, bne_iff_ne, beq_eq_false_iff_ne, bne_eq_false_iff_eq, Bool.not_eq_true, Bool.not_eq_false, Bool.not_eq_eq_eq_not, Bool.not_true, Bool.not_false, List.length_map, Int.not_lt, Int.not_le, ne_eq, Decidable.not_not] at hc1
    refine vc_skip ?_
    refine hK3 _ ?_
    refine vc_seq fun K6 hK6 => ?_
    refine vc_region ?_
    refine vo_move_pv rfl rfl ?_
    refine vo_assign_pv rfl rfl ?_
    refine vo_nil ?_
    refine hK6 _ ?_
    refine vc_ret ?_
    change retQ _ _ _ _ _
    refine retQ_sel [] (srows := []) (.inr rfl) hC rfl rfl rfl rfl rfl rfl rfl ?_
    refine ⟨?_, rfl⟩
    refine (congrArg (fun b => [i64 b]) (?_ : _ = _) : [i64 _] = [i64 _])
    simp only [List.length_map]; rw [if_neg (by omega)]


theorem toPair_sat {a : Int × Int}   : SatAt Try.prog 63 [.pv false (pairP a)] [] (fun res rows => res = [.pv true (pairP a)] ∧ rows = []) := by
  refine sat_entry_G (rs := [(2, some (37, 2))]) Try.func63 rfl rfl (Nat.le_of_ble_eq_true rfl) (Nat.le_of_ble_eq_true rfl) (resTs1 ⟨_, _, Try.underlying37, rfl, inf37, sz37⟩) fun C hC => ?_
  rw [Try.ntmps63]
  replace hC : C.nb = 0 := hC
  refine vc_seq fun K1 hK1 => ?_
  refine vc_region ?_
  refine vo_box rfl rfl ?_
  refine vo_stM ?_
  refine vo_alloc Z37 rfl ?_
  refine vo_stM ?_
  refine vo_nil ?_
  refine hK1 _ ?_
  refine vc_seq fun K2 hK2 => ?_
  refine vc_region ?_
  refine vo_alloc Z37 rfl ?_
  refine vo_stM ?_
  refine vo_nil ?_
  refine hK2 _ ?_
  refine vc_seq fun K3 hK3 => ?_
  refine vc_region ?_
  refine vo_fieldAddr_ptr rfl rfl Try.underlying86 rfl inf3 (by rw [sz3]; decide) ?_
  try simp only [Nat.zero_add]
  refine vo_load_var rfl rfl rfl Try.underlying3 rfl rfl ?_
  refine vo_fieldAddr_ptr rfl rfl Try.underlying37 rfl inf3 (by rw [sz3]; decide) ?_
  try simp only [Nat.zero_add]
  refine vo_store_var rfl rfl rfl rfl inf3 sz3 rfl ?_
  refine vo_stM ?_
  refine vo_nil ?_
  refine hK3 _ ?_
  refine vc_seq fun K4 hK4 => ?_
  refine vc_region ?_
  refine vo_fieldAddr_ptr rfl rfl Try.underlying86 rfl inf3 (by rw [sz3]; decide) ?_
  try simp only [Nat.zero_add]
  refine vo_load_var rfl rfl rfl Try.underlying3 rfl rfl ?_
  refine vo_fieldAddr_ptr rfl rfl Try.underlying37 rfl inf3 (by rw [sz3]; decide) ?_
  try simp only [Nat.zero_add]
  refine vo_store_var rfl rfl rfl rfl inf3 sz3 rfl ?_
  refine vo_stM ?_
  refine vo_nil ?_
  refine hK4 _ ?_
  refine vc_seq fun K5 hK5 => ?_
  refine vc_region ?_
  refine vo_load_varS rfl rfl rfl Try.underlying37 rfl inf37 sz37 rfl rfl ?_
  refine vo_store_varS rfl rfl rfl inf37 sz37 rfl ?_
  refine vo_stM ?_
  refine vo_nil ?_
  refine hK5 _ ?_
  refine vc_ret ?_
  change retQ _ _ _ _ _
  refine retQ_sel [] (srows := []) (.inr rfl) hC rfl rfl rfl rfl rfl rfl rfl ?_
  exact ⟨rfl, rfl⟩


theorem toPairS_sat {nl0 : Option Bool} {a : List (Int × Int)} (ha : a.length < 1000000000)  : SatAt Try.prog 25 [.pv false (.sl nl0 2 (a.map pairP))] [] (fun res rows => res = [.pv true (.sl (some false) 2 (a.map pairP))] ∧ rows = []) := by
  have hcl := fun k h => cpy_len ((0, 0) : Int × Int) a k h
  refine sat_entry_G (rs := [(2, none)]) Try.func25 rfl rfl (Nat.le_of_ble_eq_true rfl) (Nat.le_of_ble_eq_true rfl) (resTs1 trivial) fun C hC => ?_
  rw [Try.ntmps25]
  replace hC : C.nb = 0 := hC
  refine vc_seq fun K1 hK1 => ?_
  refine vc_region ?_
  refine vo_assign_pv rfl rfl ?_
  refine vo_nil ?_
  refine hK1 _ ?_
  refine vc_seq fun K2 hK2 => ?_
  refine vc_region ?_
  refine vo_move_pv rfl rfl ?_
  refine vo_len_pv rfl rfl Try.underlying38 ?_
  refine vo_make E32 rfl rfl rfl sd sd sd ?_
  refine vo_assign_ref rfl rfl ?_
  refine vo_nil ?_
  refine hK2 _ ?_
  refine vc_seq fun K3 hK3 => ?_
  refine vc_seq fun K4 hK4 => ?_
  refine vc_region ?_
  refine vo_assign_pv rfl rfl ?_
  refine vo_nil ?_
  refine hK4 _ ?_
  refine vc_block ?_
  refine vc_stM ?_
  refine vc_loopE [0] [3, 4] [0] _ _ (fun mz vs rs => ∃ (k : Nat), mz = a.length - k ∧ (k ≤ a.length) ∧ vs = [.ref 0, i64 k] ∧ rs = [Row.own 37 2 (some false) true ((cpy (0, 0) a k).map pairP)]) (a.length) rfl rfl (le_len hC rfl) ⟨rfl, rfl, rfl⟩ rfl ⟨0, rfl, Nat.zero_le _, rfl, (by simp only [rep_pairs, cpy_0, List.length_map]; rfl)⟩ ?_
  rintro mz vs rs - - ⟨k, rfl, hk, rfl, rfl⟩
  refine vc_stM ?_
  have hcl9 := hcl k hk
  refine vc_seq fun K5 hK5 => ?_
  refine vc_seq fun K6 hK6 => ?_
  refine vc_region ?_
  refine vo_move_pv rfl rfl ?_
  refine vo_move_pv rfl rfl ?_
  refine vo_len_pv rfl rfl Try.underlying38 ?_
  refine vo_binI rfl rfl rfl rfl trivial ?_
  refine vo_nil ?_
  refine hK6 _ ?_
  refine vc_cond rfl (fun hc1 => ?_) (fun hc1 => ?_)
  · try simp only [decide_eq_true_eq, decide_eq_false_iff_not, beq_iff_eq, bne_iff_ne, beq_eq_false_iff_ne, bne_eq_false_iff_eq, Bool.not_eq_true, Bool.not_eq_false, Bool.not_eq_eq_eq_not, Bool.not_true, Bool.not_false, List.length_map, Int.not_lt, Int.not_le, ne_eq, Decidable.not_not] at hc1
    refine vc_skip ?_
    refine hK5 _ ?_
    refine vc_seq fun K7 hK7 => ?_
    refine vc_block ?_
    refine vc_region ?_
    refine vo_move_ref rfl rfl ?_
    refine vo_move_pv rfl rfl ?_
    refine vo_move_pv rfl rfl ?_
    refine vo_move_pv rfl rfl ?_
    refine vo_index_pv (.agg [(.int .i64 0), (.int .i64 0)]) rfl rfl rfl E38.und inf86 sz86 sd sd ?_
    simp only [Int.toNat_natCast, Int.toNat_zero, getD_ints, getD_intss, getD_bools, getD_bytes, PV.cells, getD_ops, getD_pairs, getD_insts]
    refine vo_load_adrS rfl rfl Try.underlying86 rfl inf86 sz86 rfl ?_
    refine vo_st (by (try simp only [St.put, PV.cells, PV.scal, List.drop_succ_cons, List.drop_zero, List.take_succ_cons, List.take_zero, List.map_cons, List.map_nil, Bool.or_true, Bool.or_false, Bool.false_or, Bool.true_or, opP, pairP, instP, heapP]); exact eq_refl _) ?_
    refine vo_call0 Try.func63 rfl rfl rfl rfl toPair_sat ?_
    rintro _ _ ⟨rfl, rfl⟩
    refine ⟨rfl, rfl, .inl rfl, ?_⟩
    refine vo_stM ?_
    refine vo_index_ref rfl rfl rfl rfl E32.und inf37 sz37 sd sd ?_
    try simp only [Int.toNat_natCast]
    refine vo_store_own rfl rfl rfl inf37 sz37 (by decide) rfl sd ?_
    try simp only [set_ints, set_intss, set_bools, rep_bools, rep_ints, Int.toNat_natCast, Int.toNat_zero, set_pairs, set_pair1, rep_pairs]
    refine vo_stM ?_
    refine vo_nil ?_
    refine hK7 _ ?_
    refine vc_region ?_
    refine vo_move_pv rfl rfl ?_
    refine vo_binI rfl rfl rfl rfl sd ?_
    refine vo_assign_pv rfl rfl ?_
    refine vo_nil ?_
    change againE _ _ _ _ _ _ _ _ _ _
    refine againE_mk rfl rfl rfl rfl rfl rfl ⟨_, ?_, k + 1, rfl, ?_, rfl, (by rw [← cpy_set _ _ _ (by omega)]; rfl)⟩
    · omega
    · omega
  · try simp only [decide_eq_true_eq, decide_eq_false_iff_not, beq_iff_eq, bne_iff_ne, beq_eq_false_iff_ne, bne_eq_false_iff_eq, Bool.not_eq_true, Bool.not_eq_false, Bool.not_eq_eq_eq_not, Bool.not_true, Bool.not_false, List.length_map, Int.not_lt, Int.not_le, ne_eq, Decidable.not_not] at hc1
    refine vc_exit ?_
    refine hK3 _ ?_
    refine vc_seq fun K8 hK8 => ?_
    refine vc_region ?_
    refine vo_move_ref rfl rfl ?_
    refine vo_assign_ref rfl rfl ?_
    refine vo_nil ?_
    refine hK8 _ ?_
    refine vc_expose 0 (by omega) rfl ?_
    refine vc_stM ?_
    refine vc_ret ?_
    change retQ _ _ _ _ _
    refine retQ_sel [] (srows := []) (.inr rfl) hC rfl rfl rfl rfl rfl rfl rfl ?_
    have : k = a.length := by omega
    subst this
    rw [cpy_end]
    exact ⟨rfl, rfl⟩


theorem eqPair_sat {a : Int × Int} {b : Int × Int}   : SatAt Try.prog 64 [.pv false (pairP a), .pv false (pairP b)] [] (fun res rows => res = [bo (decide (a = b))] ∧ rows = []) := by
  refine sat_entry_G (rs := [(4, none)]) Try.func64 rfl rfl (Nat.le_of_ble_eq_true rfl) (Nat.le_of_ble_eq_true rfl) (resTs1 trivial) fun C hC => ?_
  rw [Try.ntmps64]
  replace hC : C.nb = 0 := hC
  refine vc_seq fun K1 hK1 => ?_
  refine vc_region ?_
  refine vo_box rfl rfl ?_
  refine vo_stM ?_
  refine vo_box rfl rfl ?_
  refine vo_stM ?_
  refine vo_assign_pv rfl rfl ?_
  refine vo_nil ?_
  refine hK1 _ ?_
  refine vc_seq fun K2 hK2 => ?_
  refine vc_seq fun K3 hK3 => ?_
  refine vc_region ?_
  refine vo_fieldAddr_ptr rfl rfl Try.underlying37 rfl inf3 (by rw [sz3]; decide) ?_
  try simp only [Nat.zero_add]
  refine vo_load_var rfl rfl rfl Try.underlying3 rfl rfl ?_
  refine vo_fieldAddr_ptr rfl rfl Try.underlying37 rfl inf3 (by rw [sz3]; decide) ?_
  try simp only [Nat.zero_add]
  refine vo_load_var rfl rfl rfl Try.underlying3 rfl rfl ?_
  refine vo_binI rfl rfl rfl rfl trivial ?_
  refine vo_nil ?_
  refine hK3 _ ?_
  refine vc_cond rfl (fun hc1 => ?_) (fun hc1 => ?_)
  · try simp only [decide_eq_true_eq, decide_eq_false_iff_not, beq_iff_eq, bne_iff_ne, beq_eq_false_iff_ne, bne_eq_false_iff_eq, Bool.not_eq_true, Bool.not_eq_false, Bool.not_eq_eq_eq_not, Bool.not_true, Bool.not_false, List.length_map, Int.not_lt, Int.not_le, ne_eq, Decidable.not_not] at hc1
    refine vc_seq fun K4 hK4 => ?_
    refine vc_region ?_
    refine vo_assign_pv rfl rfl ?_
    refine vo_nil ?_
    refine hK4 _ ?_
    refine vc_ret ?_
    change retQ _ _ _ _ _
    refine retQ_sel [] (srows := []) (.inr rfl) hC rfl rfl rfl rfl rfl rfl rfl ?_
    refine ⟨?_, rfl⟩
    refine (congrArg (fun b => [bo b]) (?_ : _ = _) : [bo _] = [bo _])
    cases a; cases b; simp_all
  · try simp only [decide_eq_true_eq, decide_eq_false_iff_not, beq_iff_eq, bne_iff_ne, beq_eq_false_iff_ne, bne_eq_false_iff_eq, Bool.not_eq_true, Bool.not_eq_false, Bool.not_eq_eq_eq_not, Bool.not_true, Bool.not_false, List.length_map, Int.not_lt, Int.not_le, ne_eq, Decidable.not_not] at hc1
    refine vc_skip ?_
    refine hK2 _ ?_
    refine vc_seq fun K5 hK5 => ?_
    refine vc_seq fun K6 hK6 => ?_
    refine vc_region ?_
    refine vo_fieldAddr_ptr rfl rfl Try.underlying37 rfl inf3 (by rw [sz3]; decide) ?_
    try simp only [Nat.zero_add]
    refine vo_load_var rfl rfl rfl Try.underlying3 rfl rfl ?_
    refine vo_fieldAddr_ptr rfl rfl Try.underlying37 rfl inf3 (by rw [sz3]; decide) ?_
    try simp only [Nat.zero_add]
    refine vo_load_var rfl rfl rfl Try.underlying3 rfl rfl ?_
    refine vo_binI rfl rfl rfl rfl trivial ?_
    refine vo_nil ?_
    refine hK6 _ ?_
    refine vc_cond rfl (fun hc2 => ?_) (fun hc2 => ?_)
    · try simp only [decide_eq_true_eq, decide_eq_false_iff_not, beq_iff_eq, bne_iff_ne, beq_eq_false_iff_ne, bne_eq_false_iff_eq, Bool.not_eq_true, Bool.not_eq_false, Bool.not_eq_eq_eq_not, Bool.not_true, Bool.not_false, List.length_map, Int.not_lt, Int.not_le, ne_eq, Decidable.not_not] at hc2
      refine vc_seq fun K7 hK7 => ?_
      refine vc_region ?_
      refine vo_assign_pv rfl rfl ?_
      refine vo_nil ?_
      refine hK7 _ ?_
      refine vc_ret ?_
      change retQ _ _ _ _ _
      refine retQ_sel [] (srows := []) (.inr rfl) hC rfl rfl rfl rfl rfl rfl rfl ?_
      refine ⟨?_, rfl⟩
      refine (congrArg (fun b => [bo b]) (?_ : _ = _) : [bo _] = [bo _])
      cases a; cases b; simp_all
    · try simp only [decide_eq_true_eq, decide_eq_false_iff_not, beq_iff_eq, bne_iff_ne, beq_eq_false_iff_ne, bne_eq_false_iff_eq, Bool.not_eq_true, Bool.not_eq_false, Bool.not_eq_eq_eq_not, Bool.not_true, Bool.not_false, List.length_map, Int.not_lt, Int.not_le, ne_eq, Decidable.not_not] at hc2
      refine vc_skip ?_
      refine hK5 _ ?_
      refine vc_seq fun K8 hK8 => ?_
      refine vc_region ?_
      refine vo_assign_pv rfl rfl ?_
      refine vo_nil ?_
      refine hK8 _ ?_
      refine vc_ret ?_
      change retQ _ _ _ _ _
      refine retQ_sel [] (srows := []) (.inr rfl) hC rfl rfl rfl rfl rfl rfl rfl ?_
      refine ⟨?_, rfl⟩
      refine (congrArg (fun b => [bo b]) (?_ : _ = _) : [bo _] = [bo _])
      cases a; cases b; simp_all


theorem eqPairS_sat {nl0 : Option Bool} {a : List (Int × Int)} {nl1 : Option Bool} {b : List (Int × Int)} (ha : a.length < 1000000000) (hb : b.length < 1000000000)  : SatAt Try.prog 26 [.pv false (.sl nl0 2 (a.map pairP)), .pv false (.sl nl1 2 (b.map pairP))] [] (fun res rows => res = [bo (decide (a = b))] ∧ rows = []) := by
  refine sat_entry_G (rs := [(4, none)]) Try.func26 rfl rfl (Nat.le_of_ble_eq_true rfl) (Nat.le_of_ble_eq_true rfl) (resTs1 trivial) fun C hC => ?_
  rw [Try.ntmps26]
  replace hC : C.nb = 0 := hC
  refine vc_seq fun K1 hK1 => ?_
  refine vc_region ?_
  refine vo_assign_pv rfl rfl ?_
  refine vo_nil ?_
  refine hK1 _ ?_
  refine vc_seq fun K2 hK2 => ?_
  refine vc_seq fun K3 hK3 => ?_
  refine vc_region ?_
  refine vo_move_pv rfl rfl ?_
  refine vo_len_pv rfl rfl Try.underlying32 ?_
  refine vo_move_pv rfl rfl ?_
  refine vo_len_pv rfl rfl Try.underlying32 ?_
  refine vo_binI rfl rfl rfl rfl trivial ?_
  refine vo_nil ?_
  refine hK3 _ ?_
  refine vc_cond rfl (fun hc1 => ?_) (fun hc1 => ?_)
  · try simp only [decide_eq_true_eq, decide_eq_false_iff_not, beq_iff_eq, bne_iff_ne, beq_eq_false_iff_ne, bne_eq_false_iff_eq, Bool.not_eq_true, Bool.not_eq_false, Bool.not_eq_eq_eq_not, Bool.not_true, Bool.not_false, List.length_map, Int.not_lt, Int.not_le, ne_eq, Decidable.not_not] at hc1
    refine vc_seq fun K4 hK4 => ?_
    refine vc_region ?_
    refine vo_assign_pv rfl rfl ?_
    refine vo_nil ?_
    refine hK4 _ ?_
    refine vc_ret ?_
    change retQ _ _ _ _ _
    refine retQ_sel [] (srows := []) (.inr rfl) hC rfl rfl rfl rfl rfl rfl rfl ?_
    refine ⟨?_, rfl⟩
    refine (congrArg (fun b => [bo b]) (?_ : _ = _) : [bo _] = [bo _])
    exact bF fun h => by rw [h] at hc1; exact hc1 rfl
  · try simp only [decide_eq_true_eq, decide_eq_false_iff_not, beq_iff_eq, bne_iff_ne, beq_eq_false_iff_ne, bne_eq_false_iff_eq, Bool.not_eq_true, Bool.not_eq_false, Bool.not_eq_eq_eq_not, Bool.not_true, Bool.not_false, List.length_map, Int.not_lt, Int.not_le, ne_eq, Decidable.not_not] at hc1
    refine vc_skip ?_
    refine hK2 _ ?_
    refine vc_seq fun K5 hK5 => ?_
    refine vc_seq fun K6 hK6 => ?_
    refine vc_region ?_
    refine vo_assign_pv rfl rfl ?_
    refine vo_nil ?_
    refine hK6 _ ?_
    refine vc_block ?_
    refine vc_stM ?_
    refine vc_loopE [0, 1] [5] [] _ _ (fun mz vs rs => ∃ (k : Nat), mz = a.length - k ∧ (k ≤ a.length) ∧ (a.take k = b.take k) ∧ vs = [i64 k] ∧ rs = []) (a.length) rfl rfl (le_len hC rfl) ⟨rfl, rfl, rfl⟩ rfl ⟨0, rfl, Nat.zero_le _, (by simp), rfl, rfl⟩ ?_
    rintro mz vs rs - - ⟨k, rfl, hk, hf, rfl, rfl⟩
    refine vc_stM ?_
    refine vc_seq fun K7 hK7 => ?_
    refine vc_seq fun K8 hK8 => ?_
    refine vc_region ?_
    refine vo_move_pv rfl rfl ?_
    refine vo_move_pv rfl rfl ?_
    refine vo_len_pv rfl rfl Try.underlying32 ?_
    refine vo_binI rfl rfl rfl rfl trivial ?_
    refine vo_nil ?_
    refine hK8 _ ?_
    refine vc_cond rfl (fun hc2 => ?_) (fun hc2 => ?_)
    · try simp only [decide_eq_true_eq, decide_eq_false_iff_not, beq_iff_eq, bne_iff_ne, beq_eq_false_iff_ne, bne_eq_false_iff_eq, Bool.not_eq_true, Bool.not_eq_false, Bool.not_eq_eq_eq_not, Bool.not_true, Bool.not_false, List.length_map, Int.not_lt, Int.not_le, ne_eq, Decidable.not_not] at hc2
      refine vc_skip ?_
      refine hK7 _ ?_
      refine vc_seq fun K9 hK9 => ?_
      refine vc_block ?_
      refine vc_seq fun K10 hK10 => ?_
      refine vc_draw (by kernel_rfl) ?_
      change VD _ _ _ 10 _ _ _
      refine vd_light 0 rfl rfl rfl (by kernel_rfl) (by kernel_rfl) (by kernel_rfl) (wnt_none rfl) (lt_move_pv rfl) ?_
      refine vd_light 1 rfl rfl rfl (by kernel_rfl) (by kernel_rfl) (by kernel_rfl) (wnt_none rfl) (lt_move_pv rfl) ?_
      refine vd_light 2 rfl rfl rfl (by kernel_rfl) (by kernel_rfl) (by kernel_rfl) (wnt_none rfl) (lt_index_pv (.agg [(.int .i64 0), (.int .i64 0)]) rfl rfl E32.und inf37 sz37 sd sd) ?_
      simp only [Int.toNat_natCast, Int.toNat_zero, getD_ints, getD_intss, getD_bools, getD_bytes, PV.cells, getD_ops, getD_pairs, getD_insts]
      refine vd_light 3 rfl rfl rfl (by kernel_rfl) (by kernel_rfl) (by kernel_rfl) (wnt_none rfl) (lt_load_adrS rfl Try.underlying37 rfl inf37 sz37 rfl) ?_
      refine vd_st (by (try simp only [St.put, PV.cells, PV.scal, List.drop_succ_cons, List.drop_zero, List.take_succ_cons, List.take_zero, List.map_cons, List.map_nil, Bool.or_true, Bool.or_false, Bool.false_or, Bool.true_or, opP, pairP, instP, heapP]); exact eq_refl _) ?_
      refine vd_light 4 rfl rfl rfl (by kernel_rfl) (by kernel_rfl) (by kernel_rfl) (wnt_none rfl) (lt_move_pv rfl) ?_
      refine vd_light 5 rfl rfl rfl (by kernel_rfl) (by kernel_rfl) (by kernel_rfl) (wnt_none rfl) (lt_move_pv rfl) ?_
      refine vd_light 6 rfl rfl rfl (by kernel_rfl) (by kernel_rfl) (by kernel_rfl) (wnt_none rfl) (lt_index_pv (.agg [(.int .i64 0), (.int .i64 0)]) rfl rfl E32.und inf37 sz37 sd sd) ?_
      simp only [Int.toNat_natCast, Int.toNat_zero, getD_ints, getD_intss, getD_bools, getD_bytes, PV.cells, getD_ops, getD_pairs, getD_insts]
      refine vd_light 7 rfl rfl rfl (by kernel_rfl) (by kernel_rfl) (by kernel_rfl) (wnt_none rfl) (lt_load_adrS rfl Try.underlying37 rfl inf37 sz37 rfl) ?_
      refine vd_st (by (try simp only [St.put, PV.cells, PV.scal, List.drop_succ_cons, List.drop_zero, List.take_succ_cons, List.take_zero, List.map_cons, List.map_nil, Bool.or_true, Bool.or_false, Bool.false_or, Bool.true_or, opP, pairP, instP, heapP]); exact eq_refl _) ?_
      refine vd_call 8 rfl (by kernel_rfl) (wnt_none rfl) Try.func64 rfl rfl rfl rfl eqPair_sat ?_
      rintro _ _ ⟨rfl, rfl⟩
      refine ⟨rfl, rfl, .inl rfl, ?_⟩
      refine vd_stM ?_
      refine vd_light 9 rfl rfl rfl (by kernel_rfl) (by kernel_rfl) (by kernel_rfl) (wnt_none rfl) (lt_not rfl) ?_
      refine vd_nil (by kernel_rfl) ?_
      refine hK10 _ ?_
      refine vc_cond rfl (fun hc3 => ?_) (fun hc3 => ?_)
      · try simp only [decide_eq_true_eq, decide_eq_false_iff_not, beq_iff_eq, bne_iff_ne, beq_eq_false_iff_ne, bne_eq_false_iff_eq, Bool.not_eq_true, Bool.not_eq_false, Bool.not_eq_eq_eq_not, Bool.not_true, Bool.not_false, List.length_map, Int.not_lt, Int.not_le, ne_eq, Decidable.not_not] at hc3
        refine vc_seq fun K11 hK11 => ?_
        refine vc_region ?_
        refine vo_assign_pv rfl rfl ?_
        refine vo_nil ?_
        refine hK11 _ ?_
        refine vc_ret ?_
        change retQ _ _ _ _ _
        refine retQ_sel [] (srows := []) (.inr rfl) hC rfl rfl rfl rfl rfl rfl rfl ?_
        refine ⟨?_, rfl⟩
        refine (congrArg (fun b => [bo b]) (?_ : _ = _) : [bo _] = [bo _])
        exact bF fun h => hc3 (by rw [h])
      · try simp only [decide_eq_true_eq, decide_eq_false_iff_not, beq_iff_eq, bne_iff_ne, beq_eq_false_iff_ne, bne_eq_false_iff_eq, Bool.not_eq_true, Bool.not_eq_false, Bool.not_eq_eq_eq_not, Bool.not_true, Bool.not_false, List.length_map, Int.not_lt, Int.not_le, ne_eq, Decidable.not_not] at hc3
        refine vc_skip ?_
        refine hK9 _ ?_
        refine vc_region ?_
        refine vo_move_pv rfl rfl ?_
        refine vo_binI rfl rfl rfl rfl sd ?_
        refine vo_assign_pv rfl rfl ?_
        refine vo_nil ?_
        change againE _ _ _ _ _ _ _ _ _ _
        refine againE_mk rfl rfl rfl rfl rfl rfl ⟨_, ?_, k + 1, rfl, ?_, ?_, rfl, rfl⟩
        · omega
        · omega
        · exact (take_eqS (0, 0) (by omega) (by omega)).2 ⟨hf, by first | assumption | (simpa using hc3)⟩
    · try simp only [decide_eq_true_eq, decide_eq_false_iff_not, beq_iff_eq, bne_iff_ne, beq_eq_false_iff_ne, bne_eq_false_iff_eq, Bool.not_eq_true, Bool.not_eq_false, Bool.not_eq_eq_eq_not, Bool.not_true, Bool.not_false, List.length_map, Int.not_lt, Int.not_le, ne_eq, Decidable.not_not] at hc2
      refine vc_exit ?_
      refine hK5 _ ?_
      refine vc_seq fun K12 hK12 => ?_
      refine vc_region ?_
      refine vo_assign_pv rfl rfl ?_
      refine vo_nil ?_
      refine hK12 _ ?_
      refine vc_ret ?_
      change retQ _ _ _ _ _
      refine retQ_sel [] (srows := []) (.inr rfl) hC rfl rfl rfl rfl rfl rfl rfl ?_
      refine ⟨?_, rfl⟩
      refine (congrArg (fun b => [bo b]) (?_ : _ = _) : [bo _] = [bo _])
      rw [take_all (by omega), take_all (by omega)] at hf; exact bT hf


theorem pairNames_sat {nl0 : Option Bool} {pairs : List (Int × Int)} (hpairs : pairs.length < 1000000000)  : SatAt Try.prog 92 [.pv false (.sl nl0 2 (pairs.map pairP))] [] (fun res rows => ∃ nl, res = [.pv true (.sl nl 1 ((nms pairs).map intP))] ∧ rows = []) := by
  refine sat_entry_G (rs := [(2, none)]) Try.func92 rfl rfl (Nat.le_of_ble_eq_true rfl) (Nat.le_of_ble_eq_true rfl) (resTs1 trivial) fun C hC => ?_
  rw [Try.ntmps92]
  replace hC : C.nb = 0 := hC
  refine vc_seq fun K1 hK1 => ?_
  refine vc_region ?_
  refine vo_assign_pv rfl rfl ?_
  refine vo_nil ?_
  refine hK1 _ ?_
  refine vc_seq fun K2 hK2 => ?_
  refine vc_region ?_
  refine vo_assign_pv rfl rfl ?_
  refine vo_nil ?_
  refine hK2 _ ?_
  refine vc_seq fun K3 hK3 => ?_
  refine vc_seq fun K4 hK4 => ?_
  refine vc_region ?_
  refine vo_move_pv rfl rfl ?_
  refine vo_len_pv rfl rfl Try.underlying32 ?_
  refine vo_move_pv rfl rfl ?_
  refine vo_nil ?_
  refine hK4 _ ?_
  refine vc_block ?_
  refine vc_own_nil 3 E50 rfl ?_
  refine vc_stM ?_
  refine vc_loopE [6, 7] [3, 8] [0] _ _ (fun mz vs rs => ∃ (k : Nat), mz = pairs.length - k ∧ (k ≤ pairs.length) ∧ vs = [.ref 0, i64 k] ∧ rs = [Row.own 3 1 none true ((nms (pairs.take k)).map intP)]) (pairs.length) rfl rfl (le_len hC rfl) ⟨rfl, rfl, rfl⟩ rfl ⟨0, rfl, Nat.zero_le _, rfl, rfl⟩ ?_
  rintro mz vs rs - - ⟨k, rfl, hk, rfl, rfl⟩
  refine vc_stM ?_
  refine vc_seq fun K5 hK5 => ?_
  refine vc_region ?_
  refine vo_binI rfl rfl rfl rfl trivial ?_
  refine vo_nil ?_
  refine hK5 _ ?_
  refine vc_seq fun K6 hK6 => ?_
  refine vc_cond rfl (fun hc1 => ?_) (fun hc1 => ?_)
  · try simp only [decide_eq_true_eq, decide_eq_false_iff_not, beq_iff_eq, bne_iff_ne, beq_eq_false_iff_ne, bne_eq_false_iff_eq, Bool.not_eq_true, Bool.not_eq_false, Bool.not_eq_eq_eq_not, Bool.not_true, Bool.not_false, List.length_map, Int.not_lt, Int.not_le, ne_eq, Decidable.not_not] at hc1
    refine vc_skip ?_
    refine hK6 _ ?_
    refine vc_seq fun K7 hK7 => ?_
    refine vc_block ?_
    refine vc_seq fun K8 hK8 => ?_
    refine vc_region ?_
    refine vo_index_pv (.agg [(.int .i64 0), (.int .i64 0)]) rfl rfl rfl E32.und inf37 sz37 sd sd ?_
    simp only [Int.toNat_natCast, Int.toNat_zero, getD_ints, getD_intss, getD_bools, getD_bytes, PV.cells, getD_ops, getD_pairs, getD_insts]
    refine vo_load_adrS rfl rfl Try.underlying37 rfl inf37 sz37 rfl ?_
    refine vo_st (by (try simp only [St.put, PV.cells, PV.scal, List.drop_succ_cons, List.drop_zero, List.take_succ_cons, List.take_zero, List.map_cons, List.map_nil, Bool.or_true, Bool.or_false, Bool.false_or, Bool.true_or, opP, pairP, instP, heapP]); exact eq_refl _) ?_
    refine vo_alloc Z37 rfl ?_
    refine vo_stM ?_
    refine vo_store_varS rfl rfl rfl inf37 sz37 rfl ?_
    refine vo_stM ?_
    refine vo_nil ?_
    refine hK8 _ ?_
    refine vc_region ?_
    refine vo_move_ref rfl rfl ?_
    refine vo_fieldAddr_ptr rfl rfl Try.underlying37 rfl inf3 (by rw [sz3]; decide) ?_
    try simp only [Nat.zero_add]
    refine vo_load_var rfl rfl rfl Try.underlying3 rfl rfl ?_
    refine vo_buildSlice E50 rfl rfl rfl rfl rfl ?_
    refine vo_stM ?_
    refine vo_append E50 rfl (by omega) rfl rfl rfl sd sd ?_
    refine vo_stM ?_
    try simp only [app_ints, app_intss, app_bools]
    refine vo_assign_ref rfl rfl ?_
    refine vo_nil ?_
    refine hK7 _ ?_
    refine vc_region ?_
    refine vo_binI rfl rfl rfl rfl sd ?_
    refine vo_move_pv rfl rfl ?_
    refine vo_nil ?_
    change againE _ _ _ _ _ _ _ _ _ _
    refine againE_mk rfl rfl rfl rfl rfl rfl ⟨_, ?_, k + 1, rfl, ?_, rfl, (by rw [← app_nm1 _ _ (by omega)]; rfl)⟩
    · omega
    · omega
  · try simp only [decide_eq_true_eq, decide_eq_false_iff_not, beq_iff_eq, bne_iff_ne, beq_eq_false_iff_ne, bne_eq_false_iff_eq, Bool.not_eq_true, Bool.not_eq_false, Bool.not_eq_eq_eq_not, Bool.not_true, Bool.not_false, List.length_map, Int.not_lt, Int.not_le, ne_eq, Decidable.not_not] at hc1
    refine vc_exit ?_
    refine hK3 _ ?_
    refine vc_seq fun K9 hK9 => ?_
    refine vc_region ?_
    refine vo_move_ref rfl rfl ?_
    refine vo_assign_ref rfl rfl ?_
    refine vo_nil ?_
    refine hK9 _ ?_
    refine vc_expose 0 (by omega) rfl ?_
    refine vc_stM ?_
    refine vc_ret ?_
    change retQ _ _ _ _ _
    refine retQ_sel [] (srows := []) (.inr rfl) hC rfl rfl rfl rfl rfl rfl rfl ?_
    rw [show pairs.take k = pairs from take_all (by omega)]; exact ⟨_, rfl, rfl⟩


theorem haveDifferentNames_sat {nl0 : Option Bool} {pairs : List (Int × Int)} {most : Int} (hpairs : pairs.length < 1000000000)  : SatAt Try.prog 59 [.pv false (.sl nl0 2 (pairs.map pairP)), i64 most] [] (fun res rows => res = [bo (decide (pairs.length ≤ most ∧ (nms pairs).Nodup))] ∧ rows = []) := by
  refine sat_entry_G (rs := [(4, none)]) Try.func59 rfl rfl (Nat.le_of_ble_eq_true rfl) (Nat.le_of_ble_eq_true rfl) (resTs1 trivial) fun C hC => ?_
  rw [Try.ntmps59]
  replace hC : C.nb = 0 := hC
  refine vc_seq fun K1 hK1 => ?_
  refine vc_region ?_
  refine vo_assign_pv rfl rfl ?_
  refine vo_nil ?_
  refine hK1 _ ?_
  refine vc_seq fun K2 hK2 => ?_
  refine vc_region ?_
  refine vo_move_pv rfl rfl ?_
  refine vo_len_pv rfl rfl Try.underlying32 ?_
  refine vo_move_pv rfl rfl ?_
  refine vo_binI rfl rfl rfl rfl trivial ?_
  refine vo_move_pv rfl rfl ?_
  refine vo_split 9 rfl (fun hg1 => ?_) (fun hg1 => ?_)
  · try simp only [decide_eq_true_eq, decide_eq_false_iff_not, beq_iff_eq, bne_iff_ne, beq_eq_false_iff_ne, bne_eq_false_iff_eq, Bool.not_eq_true, Bool.not_eq_false, Bool.not_eq_eq_eq_not, Bool.not_true, Bool.not_false, List.length_map, Int.not_lt, Int.not_le, ne_eq, Decidable.not_not] at hg1
    refine vo_guard_on rfl rfl rfl ?_
    refine vo_move_pv rfl rfl ?_
    refine vo_guard_on rfl rfl rfl ?_
    refine vo_call0 Try.func92 rfl rfl rfl rfl (pairNames_sat hpairs) ?_
    rintro _ _ ⟨nl9, rfl, rfl⟩
    refine ⟨rfl, rfl, .inl rfl, ?_⟩
    refine vo_stM ?_
    refine vo_guard_on rfl rfl rfl ?_
    refine vo_move_pv rfl rfl ?_
    refine vo_guard_on rfl rfl rfl ?_
    refine vo_call0 Try.func76 rfl rfl rfl rfl (isList_sat (list := nms pairs) (by rw [nms_len]; omega)) ?_
    rintro _ _ ⟨rfl, rfl⟩
    refine ⟨rfl, rfl, .inl rfl, ?_⟩
    refine vo_stM ?_
    refine vo_pick_t rfl rfl ?_
    refine vo_assign_pv rfl rfl ?_
    refine vo_nil ?_
    refine hK2 _ ?_
    refine vc_ret ?_
    change retQ _ _ _ _ _
    refine retQ_sel [] (srows := []) (.inr rfl) hC rfl rfl rfl rfl rfl rfl rfl ?_
    refine ⟨?_, rfl⟩
    refine (congrArg (fun b => [bo b]) (?_ : _ = _) : [bo _] = [bo _])
    exact decide_eq_decide.2 ⟨fun h => ⟨by omega, h.2⟩, fun h => ⟨by rw [nms_len]; omega, h.2⟩⟩
  · try simp only [decide_eq_true_eq, decide_eq_false_iff_not, beq_iff_eq, bne_iff_ne, beq_eq_false_iff_ne, bne_eq_false_iff_eq, Bool.not_eq_true, Bool.not_eq_false, Bool.not_eq_eq_eq_not, Bool.not_true, Bool.not_false, List.length_map, Int.not_lt, Int.not_le, ne_eq, Decidable.not_not] at hg1
    refine vo_guard_off rfl rfl rfl rfl rfl ?_
    refine vo_guard_off rfl rfl rfl rfl rfl ?_
    refine vo_guard_off rfl rfl rfl rfl rfl ?_
    refine vo_guard_off rfl rfl rfl rfl rfl ?_
    refine vo_pick_f rfl rfl ?_
    refine vo_assign_pv rfl rfl ?_
    refine vo_nil ?_
    refine hK2 _ ?_
    refine vc_ret ?_
    change retQ _ _ _ _ _
    refine retQ_sel [] (srows := []) (.inr rfl) hC rfl rfl rfl rfl rfl rfl rfl ?_
    refine ⟨?_, rfl⟩
    refine (congrArg (fun b => [bo b]) (?_ : _ = _) : [bo _] = [bo _])
    exact bF fun h => by have := h.1; omega


end Go.Vl


namespace Go.Vl
set_option linter.unusedVariables false
set_option linter.unusedSimpArgs false
open Go.Proofs
open Go.Proofs
def GI63 (x : InstM) : Prop := x.order.length ≤ 9223372036854775807 ∧ x.values.length ≤ 9223372036854775807 ∧ x.own.length ≤ 9223372036854775807
def GH63 (h : HeapM) : Prop := h.keys.length ≤ 9223372036854775807 ∧ h.insts.length ≤ 9223372036854775807 ∧ ∀ x ∈ h.insts, GI63 x
theorem opn_ints : Opens Try.prog 50 1 (fun l : List Int => .sl none 1 (l.map intP)) (fun l => l.length ≤ 9223372036854775807 ∧ ∀ a ∈ l, i64R a) := opens_slice (P := Try.prog) Try.underlying50 (show Try.prog.cellsOf 3 = 1 by kernel_rfl) (by decide) opn_int
theorem opn_linst : Opens Try.prog 122 4 instP GI63 := by
  have h := opens_struct (P := Try.prog) (t := 122) Try.underlying122 (by kernel_rfl) (openF_cons opn_bool rfl (show Try.prog.cellsOf 4 = 1 by kernel_rfl) (openF_cons opn_ints rfl (show Try.prog.cellsOf 50 = 1 by kernel_rfl) (openF_cons opn_ints rfl (show Try.prog.cellsOf 50 = 1 by kernel_rfl) (openF_cons opn_lpairs rfl (show Try.prog.cellsOf 38 = 1 by kernel_rfl) openF_nil))))
  exact opens_map h (fun a => ⟨a.1, a.2.1, a.2.2.1, a.2.2.2.1⟩) (fun _ => rfl) (fun _ h => ⟨h.2.1.1, h.2.2.1.1, h.2.2.2.1.1⟩)
theorem opn_linsts : Opens Try.prog 51 1 (fun l : List InstM => .sl none 4 (l.map instP)) (fun l => l.length ≤ 9223372036854775807 ∧ ∀ a ∈ l, GI63 a) := opens_slice (P := Try.prog) Try.underlying51 (show Try.prog.cellsOf 122 = 4 by kernel_rfl) (by decide) opn_linst
theorem opn_lheap : Opens Try.prog 53 2 heapP GH63 := by
  have h := opens_struct (P := Try.prog) (t := 53) Try.underlying53 (by kernel_rfl) (openF_cons opn_ints rfl (show Try.prog.cellsOf 50 = 1 by kernel_rfl) (openF_cons opn_linsts rfl (show Try.prog.cellsOf 51 = 1 by kernel_rfl) openF_nil))
  exact opens_map h (fun a => ⟨a.1, a.2.1⟩) (fun _ => rfl) (fun _ h => ⟨h.1.1, h.2.1.1, h.2.1.2⟩)
/-- Sizes that the conversions need. -/
def SI (x : InstM) : Prop := x.order.length ≤ 2000000 ∧ x.values.length ≤ 2000000 ∧ x.own.length ≤ 2000000
def SH (h : HeapM) : Prop := h.keys.length ≤ 2000000 ∧ h.insts.length ≤ 2000000 ∧ ∀ x ∈ h.insts, SI x
theorem SI_zero : SI ⟨false, [], [], []⟩ := ⟨by simp, by simp, by simp⟩
theorem getD_all {α : Type} {p : α → Prop} {l : List α} (h : ∀ x ∈ l, p x) (d : α) (hd : p d) (k : Nat) : p (l.getD k d) := by
  by_cases hk : k < l.length
  · exact h _ (getD_mem hk d)
  · rw [List.getD, List.getElem?_eq_none (by omega)]; exact hd
theorem rowI_eq {el : TypeId} {e : Nat} {nl : Option Bool} {f : Bool} {xs ys : List PV} (h : xs = ys) : [Row.own el e nl f xs] = [Row.own el e nl f ys] := by rw [h]

theorem toInst_sat {a : InstM}  (ha : SI a) : SatAt Try.prog 102 [.pv false (instP a)] [] (fun res rows => res = [.pv true (instP a)] ∧ rows = []) := by
  unfold SI at ha
  refine sat_entry_G (rs := [(2, some (70, 4))]) Try.func102 rfl rfl (Nat.le_of_ble_eq_true rfl) (Nat.le_of_ble_eq_true rfl) (resTs1 ⟨_, _, Try.underlying70, rfl, inf70, sz70⟩) fun C hC => ?_
  rw [Try.ntmps102]
  replace hC : C.nb = 0 := hC
  refine vc_seq fun K1 hK1 => ?_
  refine vc_region ?_
  refine vo_box rfl rfl ?_
  refine vo_stM ?_
  refine vo_alloc Z70 rfl ?_
  refine vo_stM ?_
  refine vo_nil ?_
  refine hK1 _ ?_
  refine vc_seq fun K2 hK2 => ?_
  refine vc_region ?_
  refine vo_alloc Z70 rfl ?_
  refine vo_stM ?_
  refine vo_nil ?_
  refine hK2 _ ?_
  refine vc_seq fun K3 hK3 => ?_
  refine vc_region ?_
  refine vo_fieldAddr_ptr rfl rfl Try.underlying122 rfl inf4 (by rw [sz4]; decide) ?_
  try simp only [Nat.zero_add]
  refine vo_load_var rfl rfl rfl Try.underlying4 rfl rfl ?_
  refine vo_fieldAddr_ptr rfl rfl Try.underlying70 rfl inf4 (by rw [sz4]; decide) ?_
  try simp only [Nat.zero_add]
  refine vo_store_var rfl rfl rfl rfl inf4 sz4 rfl ?_
  refine vo_stM ?_
  refine vo_nil ?_
  refine hK3 _ ?_
  refine vc_seq fun K4 hK4 => ?_
  refine vc_region ?_
  refine vo_fieldAddr_ptr rfl rfl Try.underlying122 rfl inf50 (by rw [sz50]; decide) ?_
  try simp only [Nat.zero_add]
  refine vo_load_var rfl rfl rfl Try.underlying50 rfl rfl ?_
  refine vo_call [] Try.func74 rfl rfl rfl rfl rfl rfl rfl (toIntS_sat (by omega)) ?_
  rintro _ _ ⟨rfl, rfl⟩
  refine ⟨Nat.le_of_ble_eq_true rfl, ⟨rfl, rfl, rfl, rfl⟩, .inl rfl, ?_⟩
  refine vo_stM ?_
  refine vo_expose 3 (by omega) rfl ?_
  refine vo_stM ?_
  refine vo_weaken 9 rfl ?_
  refine vo_stM ?_
  refine vo_fieldAddr_ptr rfl rfl Try.underlying70 rfl inf50 (by rw [sz50]; decide) ?_
  try simp only [Nat.zero_add]
  refine vo_store_var rfl rfl rfl rfl inf50 sz50 rfl ?_
  refine vo_stM ?_
  refine vo_nil ?_
  refine hK4 _ ?_
  refine vc_seq fun K5 hK5 => ?_
  refine vc_region ?_
  refine vo_fieldAddr_ptr rfl rfl Try.underlying122 rfl inf50 (by rw [sz50]; decide) ?_
  try simp only [Nat.zero_add]
  refine vo_load_var rfl rfl rfl Try.underlying50 rfl rfl ?_
  refine vo_call [] Try.func74 rfl rfl rfl rfl rfl rfl rfl (toIntS_sat (by omega)) ?_
  rintro _ _ ⟨rfl, rfl⟩
  refine ⟨Nat.le_of_ble_eq_true rfl, ⟨rfl, rfl, rfl, rfl⟩, .inl rfl, ?_⟩
  refine vo_stM ?_
  refine vo_expose 4 (by omega) rfl ?_
  refine vo_stM ?_
  refine vo_weaken 13 rfl ?_
  refine vo_stM ?_
  refine vo_fieldAddr_ptr rfl rfl Try.underlying70 rfl inf50 (by rw [sz50]; decide) ?_
  try simp only [Nat.zero_add]
  refine vo_store_var rfl rfl rfl rfl inf50 sz50 rfl ?_
  refine vo_stM ?_
  refine vo_nil ?_
  refine hK5 _ ?_
  refine vc_seq fun K6 hK6 => ?_
  refine vc_region ?_
  refine vo_fieldAddr_ptr rfl rfl Try.underlying122 rfl inf38 (by rw [sz38]; decide) ?_
  try simp only [Nat.zero_add]
  refine vo_load_var rfl rfl rfl Try.underlying38 rfl rfl ?_
  refine vo_call0 Try.func25 rfl rfl rfl rfl (toPairS_sat (by omega)) ?_
  rintro _ _ ⟨rfl, rfl⟩
  refine ⟨rfl, rfl, .inl rfl, ?_⟩
  refine vo_stM ?_
  refine vo_weaken 17 rfl ?_
  refine vo_stM ?_
  refine vo_fieldAddr_ptr rfl rfl Try.underlying70 rfl inf32 (by rw [sz32]; decide) ?_
  try simp only [Nat.zero_add]
  refine vo_store_var rfl rfl rfl rfl inf32 sz32 rfl ?_
  refine vo_stM ?_
  refine vo_nil ?_
  refine hK6 _ ?_
  refine vc_seq fun K7 hK7 => ?_
  refine vc_region ?_
  refine vo_load_varS rfl rfl rfl Try.underlying70 rfl inf70 sz70 rfl rfl ?_
  refine vo_store_varS rfl rfl rfl inf70 sz70 rfl ?_
  refine vo_stM ?_
  refine vo_nil ?_
  refine hK7 _ ?_
  refine vc_ret ?_
  change retQ _ _ _ _ _
  refine retQ_sel [] (srows := []) (.inr rfl) hC rfl rfl rfl rfl rfl rfl rfl ?_
  exact ⟨rfl, rfl⟩


theorem toInstS_sat {nl0 : Option Bool} {a : List InstM} (ha : a.length < 1000000000) (hs : ∀ x ∈ a, SI x) : SatAt Try.prog 75 [.pv false (.sl nl0 4 (a.map instP))] [] (fun res rows => res = [.pv true (.sl (some false) 4 (a.map instP))] ∧ rows = []) := by
  refine sat_entry_G (rs := [(2, none)]) Try.func75 rfl rfl (Nat.le_of_ble_eq_true rfl) (Nat.le_of_ble_eq_true rfl) (resTs1 trivial) fun C hC => ?_
  rw [Try.ntmps75]
  replace hC : C.nb = 0 := hC
  refine vc_seq fun K1 hK1 => ?_
  refine vc_region ?_
  refine vo_assign_pv rfl rfl ?_
  refine vo_nil ?_
  refine hK1 _ ?_
  refine vc_seq fun K2 hK2 => ?_
  refine vc_region ?_
  refine vo_move_pv rfl rfl ?_
  refine vo_len_pv rfl rfl Try.underlying51 ?_
  refine vo_make E56 rfl rfl rfl sd sd sd ?_
  refine vo_assign_ref rfl rfl ?_
  refine vo_nil ?_
  refine hK2 _ ?_
  refine vc_seq fun K3 hK3 => ?_
  refine vc_seq fun K4 hK4 => ?_
  refine vc_region ?_
  refine vo_assign_pv rfl rfl ?_
  refine vo_nil ?_
  refine hK4 _ ?_
  refine vc_block ?_
  refine vc_stM ?_
  refine vc_loopE [0] [3, 4] [0] _ _ (fun mz vs rs => ∃ (k : Nat), mz = a.length - k ∧ (k ≤ a.length) ∧ vs = [.ref 0, i64 k] ∧ rs = [Row.own 70 4 (some false) true ((a.take k).map instP ++ List.replicate (a.length - k) (.agg [.bool false, .sl none 1 [], .sl none 1 [], .sl none 2 []]))]) (a.length) rfl rfl (le_len hC rfl) ⟨rfl, rfl, rfl⟩ rfl ⟨0, rfl, Nat.zero_le _, rfl, (rowI_eq (by rw [List.take_zero, List.length_map]; rfl))⟩ ?_
  rintro mz vs rs - - ⟨k, rfl, hk, rfl, rfl⟩
  refine vc_stM ?_
  refine vc_seq fun K5 hK5 => ?_
  refine vc_seq fun K6 hK6 => ?_
  refine vc_region ?_
  refine vo_move_pv rfl rfl ?_
  refine vo_move_pv rfl rfl ?_
  refine vo_len_pv rfl rfl Try.underlying51 ?_
  refine vo_binI rfl rfl rfl rfl trivial ?_
  refine vo_nil ?_
  refine hK6 _ ?_
  refine vc_cond rfl (fun hc1 => ?_) (fun hc1 => ?_)
  · try simp only [decide_eq_true_eq, decide_eq_false_iff_not, beq_iff_eq, bne_iff_ne, beq_eq_false_iff_ne, bne_eq_false_iff_eq, Bool.not_eq_true, Bool.not_eq_false, Bool.not_eq_eq_eq_not, Bool.not_true, Bool.not_false, List.length_map, Int.not_lt, Int.not_le, ne_eq, Decidable.not_not] at hc1
    refine vc_skip ?_
    refine hK5 _ ?_
    refine vc_seq fun K7 hK7 => ?_
    refine vc_block ?_
    refine vc_region ?_
    refine vo_move_ref rfl rfl ?_
    refine vo_move_pv rfl rfl ?_
    refine vo_move_pv rfl rfl ?_
    refine vo_move_pv rfl rfl ?_
    refine vo_index_pv (.agg [(.bool false), (.sl none 1 []), (.sl none 1 []), (.sl none 2 [])]) rfl rfl rfl E51.und inf122 sz122 sd sd ?_
    simp only [Int.toNat_natCast, Int.toNat_zero, getD_ints, getD_intss, getD_bools, getD_bytes, PV.cells, getD_ops, getD_pairs, getD_insts]
    refine vo_load_adrS rfl rfl Try.underlying122 rfl inf122 sz122 rfl ?_
    refine vo_st (by (try simp only [St.put, PV.cells, PV.scal, List.drop_succ_cons, List.drop_zero, List.take_succ_cons, List.take_zero, List.map_cons, List.map_nil, Bool.or_true, Bool.or_false, Bool.false_or, Bool.true_or, opP, pairP, instP, heapP]); exact eq_refl _) ?_
    refine vo_call0 Try.func102 rfl rfl rfl rfl (toInst_sat (getD_all hs _ SI_zero _)) ?_
    rintro _ _ ⟨rfl, rfl⟩
    refine ⟨rfl, rfl, .inl rfl, ?_⟩
    refine vo_stM ?_
    refine vo_index_ref rfl rfl rfl rfl E56.und inf70 sz70 sd sd ?_
    try simp only [Int.toNat_natCast]
    refine vo_store_own rfl rfl rfl inf70 sz70 (by decide) rfl sd ?_
    try simp only [set_ints, set_intss, set_bools, rep_bools, rep_ints, Int.toNat_natCast, Int.toNat_zero]
    refine vo_stM ?_
    refine vo_nil ?_
    refine hK7 _ ?_
    refine vc_region ?_
    refine vo_move_pv rfl rfl ?_
    refine vo_binI rfl rfl rfl rfl sd ?_
    refine vo_assign_pv rfl rfl ?_
    refine vo_nil ?_
    change againE _ _ _ _ _ _ _ _ _ _
    refine againE_mk rfl rfl rfl rfl rfl rfl ⟨_, ?_, k + 1, rfl, ?_, rfl, (rowI_eq (fill_set instP a k (by omega) ⟨false, [], [], []⟩ _))⟩
    · omega
    · omega
  · try simp only [decide_eq_true_eq, decide_eq_false_iff_not, beq_iff_eq, bne_iff_ne, beq_eq_false_iff_ne, bne_eq_false_iff_eq, Bool.not_eq_true, Bool.not_eq_false, Bool.not_eq_eq_eq_not, Bool.not_true, Bool.not_false, List.length_map, Int.not_lt, Int.not_le, ne_eq, Decidable.not_not] at hc1
    refine vc_exit ?_
    refine hK3 _ ?_
    refine vc_seq fun K8 hK8 => ?_
    refine vc_region ?_
    refine vo_move_ref rfl rfl ?_
    refine vo_assign_ref rfl rfl ?_
    refine vo_nil ?_
    refine hK8 _ ?_
    refine vc_expose 0 (by omega) rfl ?_
    refine vc_stM ?_
    refine vc_ret ?_
    change retQ _ _ _ _ _
    refine retQ_sel [] (srows := []) (.inr rfl) hC rfl rfl rfl rfl rfl rfl rfl ?_
    have : k = a.length := by omega
    subst this
    rw [List.take_length, Nat.sub_self, List.replicate_zero, List.append_nil]
    exact ⟨rfl, rfl⟩


theorem toHeap_sat {a : HeapM}  (ha : SH a) : SatAt Try.prog 36 [.pv false (heapP a)] [] (fun res rows => res = [.pv true (heapP a)] ∧ rows = []) := by
  obtain ⟨h1, h2, h3⟩ := ha
  refine sat_entry_G (rs := [(2, some (58, 2))]) Try.func36 rfl rfl (Nat.le_of_ble_eq_true rfl) (Nat.le_of_ble_eq_true rfl) (resTs1 ⟨_, _, Try.underlying58, rfl, inf58, sz58⟩) fun C hC => ?_
  rw [Try.ntmps36]
  replace hC : C.nb = 0 := hC
  refine vc_seq fun K1 hK1 => ?_
  refine vc_region ?_
  refine vo_box rfl rfl ?_
  refine vo_stM ?_
  refine vo_alloc Z58 rfl ?_
  refine vo_stM ?_
  refine vo_nil ?_
  refine hK1 _ ?_
  refine vc_seq fun K2 hK2 => ?_
  refine vc_region ?_
  refine vo_alloc Z58 rfl ?_
  refine vo_stM ?_
  refine vo_nil ?_
  refine hK2 _ ?_
  refine vc_seq fun K3 hK3 => ?_
  refine vc_region ?_
  refine vo_fieldAddr_ptr rfl rfl Try.underlying53 rfl inf50 (by rw [sz50]; decide) ?_
  try simp only [Nat.zero_add]
  refine vo_load_var rfl rfl rfl Try.underlying50 rfl rfl ?_
  refine vo_call [] Try.func74 rfl rfl rfl rfl rfl rfl rfl (toIntS_sat (by omega)) ?_
  rintro _ _ ⟨rfl, rfl⟩
  refine ⟨Nat.le_of_ble_eq_true rfl, ⟨rfl, rfl, rfl, rfl⟩, .inl rfl, ?_⟩
  refine vo_stM ?_
  refine vo_expose 3 (by omega) rfl ?_
  refine vo_stM ?_
  refine vo_weaken 6 rfl ?_
  refine vo_stM ?_
  refine vo_fieldAddr_ptr rfl rfl Try.underlying58 rfl inf50 (by rw [sz50]; decide) ?_
  try simp only [Nat.zero_add]
  refine vo_store_var rfl rfl rfl rfl inf50 sz50 rfl ?_
  refine vo_stM ?_
  refine vo_nil ?_
  refine hK3 _ ?_
  refine vc_seq fun K4 hK4 => ?_
  refine vc_region ?_
  refine vo_fieldAddr_ptr rfl rfl Try.underlying53 rfl inf51 (by rw [sz51]; decide) ?_
  try simp only [Nat.zero_add]
  refine vo_load_var rfl rfl rfl Try.underlying51 rfl rfl ?_
  refine vo_call0 Try.func75 rfl rfl rfl rfl (toInstS_sat (by omega) h3) ?_
  rintro _ _ ⟨rfl, rfl⟩
  refine ⟨rfl, rfl, .inl rfl, ?_⟩
  refine vo_stM ?_
  refine vo_weaken 10 rfl ?_
  refine vo_stM ?_
  refine vo_fieldAddr_ptr rfl rfl Try.underlying58 rfl inf56 (by rw [sz56]; decide) ?_
  try simp only [Nat.zero_add]
  refine vo_store_var rfl rfl rfl rfl inf56 sz56 rfl ?_
  refine vo_stM ?_
  refine vo_nil ?_
  refine hK4 _ ?_
  refine vc_seq fun K5 hK5 => ?_
  refine vc_region ?_
  refine vo_load_varS rfl rfl rfl Try.underlying58 rfl inf58 sz58 rfl rfl ?_
  refine vo_store_varS rfl rfl rfl inf58 sz58 rfl ?_
  refine vo_stM ?_
  refine vo_nil ?_
  refine hK5 _ ?_
  refine vc_ret ?_
  change retQ _ _ _ _ _
  refine retQ_sel [] (srows := []) (.inr rfl) hC rfl rfl rfl rfl rfl rfl rfl ?_
  exact ⟨rfl, rfl⟩


theorem eqInst_sat {a : InstM} {b : InstM}  (ha : SI a) (hb : SI b) : SatAt Try.prog 107 [.pv false (instP a), .pv false (instP b)] [] (fun res rows => res = [bo (decide (a = b))] ∧ rows = []) := by
  unfold SI at ha hb
  refine sat_entry_G (rs := [(4, none)]) Try.func107 rfl rfl (Nat.le_of_ble_eq_true rfl) (Nat.le_of_ble_eq_true rfl) (resTs1 trivial) fun C hC => ?_
  rw [Try.ntmps107]
  replace hC : C.nb = 0 := hC
  refine vc_seq fun K1 hK1 => ?_
  refine vc_region ?_
  refine vo_box rfl rfl ?_
  refine vo_stM ?_
  refine vo_box rfl rfl ?_
  refine vo_stM ?_
  refine vo_assign_pv rfl rfl ?_
  refine vo_nil ?_
  refine hK1 _ ?_
  refine vc_seq fun K2 hK2 => ?_
  refine vc_seq fun K3 hK3 => ?_
  refine vc_region ?_
  refine vo_fieldAddr_ptr rfl rfl Try.underlying70 rfl inf4 (by rw [sz4]; decide) ?_
  try simp only [Nat.zero_add]
  refine vo_load_var rfl rfl rfl Try.underlying4 rfl rfl ?_
  refine vo_fieldAddr_ptr rfl rfl Try.underlying70 rfl inf4 (by rw [sz4]; decide) ?_
  try simp only [Nat.zero_add]
  refine vo_load_var rfl rfl rfl Try.underlying4 rfl rfl ?_
  refine vo_binB rfl rfl rfl rfl Try.underlying4 ?_
  refine vo_nil ?_
  refine hK3 _ ?_
  refine vc_cond rfl (fun hc1 => ?_) (fun hc1 => ?_)
  · try simp only [decide_eq_true_eq, decide_eq_false_iff_not, beq_iff_eq, bne_iff_ne, beq_eq_false_iff_ne, bne_eq_false_iff_eq, Bool.not_eq_true, Bool.not_eq_false, Bool.not_eq_eq_eq_not, Bool.not_true, Bool.not_false, List.length_map, Int.not_lt, Int.not_le, ne_eq, Decidable.not_not] at hc1
    refine vc_seq fun K4 hK4 => ?_
    refine vc_region ?_
    refine vo_assign_pv rfl rfl ?_
    refine vo_nil ?_
    refine hK4 _ ?_
    refine vc_ret ?_
    change retQ _ _ _ _ _
    refine retQ_sel [] (srows := []) (.inr rfl) hC rfl rfl rfl rfl rfl rfl rfl ?_
    refine ⟨?_, rfl⟩
    refine (congrArg (fun b => [bo b]) (?_ : _ = _) : [bo _] = [bo _])
    cases a; cases b; simp_all
  · try simp only [decide_eq_true_eq, decide_eq_false_iff_not, beq_iff_eq, bne_iff_ne, beq_eq_false_iff_ne, bne_eq_false_iff_eq, Bool.not_eq_true, Bool.not_eq_false, Bool.not_eq_eq_eq_not, Bool.not_true, Bool.not_false, List.length_map, Int.not_lt, Int.not_le, ne_eq, Decidable.not_not] at hc1
    refine vc_skip ?_
    refine hK2 _ ?_
    refine vc_seq fun K5 hK5 => ?_
    refine vc_seq fun K6 hK6 => ?_
    refine vc_region ?_
    refine vo_fieldAddr_ptr rfl rfl Try.underlying70 rfl inf50 (by rw [sz50]; decide) ?_
    try simp only [Nat.zero_add]
    refine vo_load_var rfl rfl rfl Try.underlying50 rfl rfl ?_
    refine vo_fieldAddr_ptr rfl rfl Try.underlying70 rfl inf50 (by rw [sz50]; decide) ?_
    try simp only [Nat.zero_add]
    refine vo_load_var rfl rfl rfl Try.underlying50 rfl rfl ?_
    refine vo_call0 Try.func79 rfl rfl rfl rfl (eqIntS_sat (by omega) (by omega)) ?_
    rintro _ _ ⟨rfl, rfl⟩
    refine ⟨rfl, rfl, .inl rfl, ?_⟩
    refine vo_stM ?_
    refine vo_not rfl rfl ?_
    refine vo_nil ?_
    refine hK6 _ ?_
    refine vc_cond rfl (fun hc2 => ?_) (fun hc2 => ?_)
    · try simp only [decide_eq_true_eq, decide_eq_false_iff_not, beq_iff_eq, bne_iff_ne, beq_eq_false_iff_ne, bne_eq_false_iff_eq, Bool.not_eq_true, Bool.not_eq_false, Bool.not_eq_eq_eq_not, Bool.not_true, Bool.not_false, List.length_map, Int.not_lt, Int.not_le, ne_eq, Decidable.not_not] at hc2
      refine vc_seq fun K7 hK7 => ?_
      refine vc_region ?_
      refine vo_assign_pv rfl rfl ?_
      refine vo_nil ?_
      refine hK7 _ ?_
      refine vc_ret ?_
      change retQ _ _ _ _ _
      refine retQ_sel [] (srows := []) (.inr rfl) hC rfl rfl rfl rfl rfl rfl rfl ?_
      refine ⟨?_, rfl⟩
      refine (congrArg (fun b => [bo b]) (?_ : _ = _) : [bo _] = [bo _])
      cases a; cases b; simp_all
    · try simp only [decide_eq_true_eq, decide_eq_false_iff_not, beq_iff_eq, bne_iff_ne, beq_eq_false_iff_ne, bne_eq_false_iff_eq, Bool.not_eq_true, Bool.not_eq_false, Bool.not_eq_eq_eq_not, Bool.not_true, Bool.not_false, List.length_map, Int.not_lt, Int.not_le, ne_eq, Decidable.not_not] at hc2
      refine vc_skip ?_
      refine hK5 _ ?_
      refine vc_seq fun K8 hK8 => ?_
      refine vc_seq fun K9 hK9 => ?_
      refine vc_region ?_
      refine vo_fieldAddr_ptr rfl rfl Try.underlying70 rfl inf50 (by rw [sz50]; decide) ?_
      try simp only [Nat.zero_add]
      refine vo_load_var rfl rfl rfl Try.underlying50 rfl rfl ?_
      refine vo_fieldAddr_ptr rfl rfl Try.underlying70 rfl inf50 (by rw [sz50]; decide) ?_
      try simp only [Nat.zero_add]
      refine vo_load_var rfl rfl rfl Try.underlying50 rfl rfl ?_
      refine vo_call0 Try.func79 rfl rfl rfl rfl (eqIntS_sat (by omega) (by omega)) ?_
      rintro _ _ ⟨rfl, rfl⟩
      refine ⟨rfl, rfl, .inl rfl, ?_⟩
      refine vo_stM ?_
      refine vo_not rfl rfl ?_
      refine vo_nil ?_
      refine hK9 _ ?_
      refine vc_cond rfl (fun hc3 => ?_) (fun hc3 => ?_)
      · try simp only [decide_eq_true_eq, decide_eq_false_iff_not, beq_iff_eq, bne_iff_ne, beq_eq_false_iff_ne, bne_eq_false_iff_eq, Bool.not_eq_true, Bool.not_eq_false, Bool.not_eq_eq_eq_not, Bool.not_true, Bool.not_false, List.length_map, Int.not_lt, Int.not_le, ne_eq, Decidable.not_not] at hc3
        refine vc_seq fun K10 hK10 => ?_
        refine vc_region ?_
        refine vo_assign_pv rfl rfl ?_
        refine vo_nil ?_
        refine hK10 _ ?_
        refine vc_ret ?_
        change retQ _ _ _ _ _
        refine retQ_sel [] (srows := []) (.inr rfl) hC rfl rfl rfl rfl rfl rfl rfl ?_
        refine ⟨?_, rfl⟩
        refine (congrArg (fun b => [bo b]) (?_ : _ = _) : [bo _] = [bo _])
        cases a; cases b; simp_all
      · try simp only [decide_eq_true_eq, decide_eq_false_iff_not, beq_iff_eq, bne_iff_ne, beq_eq_false_iff_ne, bne_eq_false_iff_eq, Bool.not_eq_true, Bool.not_eq_false, Bool.not_eq_eq_eq_not, Bool.not_true, Bool.not_false, List.length_map, Int.not_lt, Int.not_le, ne_eq, Decidable.not_not] at hc3
        refine vc_skip ?_
        refine hK8 _ ?_
        refine vc_seq fun K11 hK11 => ?_
        refine vc_seq fun K12 hK12 => ?_
        refine vc_region ?_
        refine vo_fieldAddr_ptr rfl rfl Try.underlying70 rfl inf32 (by rw [sz32]; decide) ?_
        try simp only [Nat.zero_add]
        refine vo_load_var rfl rfl rfl Try.underlying32 rfl rfl ?_
        refine vo_fieldAddr_ptr rfl rfl Try.underlying70 rfl inf32 (by rw [sz32]; decide) ?_
        try simp only [Nat.zero_add]
        refine vo_load_var rfl rfl rfl Try.underlying32 rfl rfl ?_
        refine vo_call0 Try.func26 rfl rfl rfl rfl (eqPairS_sat (by omega) (by omega)) ?_
        rintro _ _ ⟨rfl, rfl⟩
        refine ⟨rfl, rfl, .inl rfl, ?_⟩
        refine vo_stM ?_
        refine vo_not rfl rfl ?_
        refine vo_nil ?_
        refine hK12 _ ?_
        refine vc_cond rfl (fun hc4 => ?_) (fun hc4 => ?_)
        · try simp only [decide_eq_true_eq, decide_eq_false_iff_not, beq_iff_eq, bne_iff_ne, beq_eq_false_iff_ne, bne_eq_false_iff_eq, Bool.not_eq_true, Bool.not_eq_false, Bool.not_eq_eq_eq_not, Bool.not_true, Bool.not_false, List.length_map, Int.not_lt, Int.not_le, ne_eq, Decidable.not_not] at hc4
          refine vc_seq fun K13 hK13 => ?_
          refine vc_region ?_
          refine vo_assign_pv rfl rfl ?_
          refine vo_nil ?_
          refine hK13 _ ?_
          refine vc_ret ?_
          change retQ _ _ _ _ _
          refine retQ_sel [] (srows := []) (.inr rfl) hC rfl rfl rfl rfl rfl rfl rfl ?_
          refine ⟨?_, rfl⟩
          refine (congrArg (fun b => [bo b]) (?_ : _ = _) : [bo _] = [bo _])
          cases a; cases b; simp_all
        · try simp only [decide_eq_true_eq, decide_eq_false_iff_not, beq_iff_eq, bne_iff_ne, beq_eq_false_iff_ne, bne_eq_false_iff_eq, Bool.not_eq_true, Bool.not_eq_false, Bool.not_eq_eq_eq_not, Bool.not_true, Bool.not_false, List.length_map, Int.not_lt, Int.not_le, ne_eq, Decidable.not_not] at hc4
          refine vc_skip ?_
          refine hK11 _ ?_
          refine vc_seq fun K14 hK14 => ?_
          refine vc_region ?_
          refine vo_assign_pv rfl rfl ?_
          refine vo_nil ?_
          refine hK14 _ ?_
          refine vc_ret ?_
          change retQ _ _ _ _ _
          refine retQ_sel [] (srows := []) (.inr rfl) hC rfl rfl rfl rfl rfl rfl rfl ?_
          refine ⟨?_, rfl⟩
          refine (congrArg (fun b => [bo b]) (?_ : _ = _) : [bo _] = [bo _])
          cases a; cases b; simp_all


theorem eqInstS_sat {nl0 : Option Bool} {a : List InstM} {nl1 : Option Bool} {b : List InstM} (ha : a.length < 1000000000) (hb : b.length < 1000000000) (hsa : ∀ x ∈ a, SI x) (hsb : ∀ x ∈ b, SI x) : SatAt Try.prog 80 [.pv false (.sl nl0 4 (a.map instP)), .pv false (.sl nl1 4 (b.map instP))] [] (fun res rows => res = [bo (decide (a = b))] ∧ rows = []) := by
  refine sat_entry_G (rs := [(4, none)]) Try.func80 rfl rfl (Nat.le_of_ble_eq_true rfl) (Nat.le_of_ble_eq_true rfl) (resTs1 trivial) fun C hC => ?_
  rw [Try.ntmps80]
  replace hC : C.nb = 0 := hC
  refine vc_seq fun K1 hK1 => ?_
  refine vc_region ?_
  refine vo_assign_pv rfl rfl ?_
  refine vo_nil ?_
  refine hK1 _ ?_
  refine vc_seq fun K2 hK2 => ?_
  refine vc_seq fun K3 hK3 => ?_
  refine vc_region ?_
  refine vo_move_pv rfl rfl ?_
  refine vo_len_pv rfl rfl Try.underlying56 ?_
  refine vo_move_pv rfl rfl ?_
  refine vo_len_pv rfl rfl Try.underlying56 ?_
  refine vo_binI rfl rfl rfl rfl trivial ?_
  refine vo_nil ?_
  refine hK3 _ ?_
  refine vc_cond rfl (fun hc1 => ?_) (fun hc1 => ?_)
  · try simp only [decide_eq_true_eq, decide_eq_false_iff_not, beq_iff_eq, bne_iff_ne, beq_eq_false_iff_ne, bne_eq_false_iff_eq, Bool.not_eq_true, Bool.not_eq_false, Bool.not_eq_eq_eq_not, Bool.not_true, Bool.not_false, List.length_map, Int.not_lt, Int.not_le, ne_eq, Decidable.not_not] at hc1
    refine vc_seq fun K4 hK4 => ?_
    refine vc_region ?_
    refine vo_assign_pv rfl rfl ?_
    refine vo_nil ?_
    refine hK4 _ ?_
    refine vc_ret ?_
    change retQ _ _ _ _ _
    refine retQ_sel [] (srows := []) (.inr rfl) hC rfl rfl rfl rfl rfl rfl rfl ?_
    refine ⟨?_, rfl⟩
    refine (congrArg (fun b => [bo b]) (?_ : _ = _) : [bo _] = [bo _])
    exact bF fun h => by rw [h] at hc1; exact hc1 rfl
  · try simp only [decide_eq_true_eq, decide_eq_false_iff_not, beq_iff_eq, bne_iff_ne, beq_eq_false_iff_ne, bne_eq_false_iff_eq, Bool.not_eq_true, Bool.not_eq_false, Bool.not_eq_eq_eq_not, Bool.not_true, Bool.not_false, List.length_map, Int.not_lt, Int.not_le, ne_eq, Decidable.not_not] at hc1
    refine vc_skip ?_
    refine hK2 _ ?_
    refine vc_seq fun K5 hK5 => ?_
    refine vc_seq fun K6 hK6 => ?_
    refine vc_region ?_
    refine vo_assign_pv rfl rfl ?_
    refine vo_nil ?_
    refine hK6 _ ?_
    refine vc_block ?_
    refine vc_stM ?_
    refine vc_loopE [0, 1] [5] [] _ _ (fun mz vs rs => ∃ (k : Nat), mz = a.length - k ∧ (k ≤ a.length) ∧ (a.take k = b.take k) ∧ vs = [i64 k] ∧ rs = []) (a.length) rfl rfl (le_len hC rfl) ⟨rfl, rfl, rfl⟩ rfl ⟨0, rfl, Nat.zero_le _, (by simp), rfl, rfl⟩ ?_
    rintro mz vs rs - - ⟨k, rfl, hk, hf, rfl, rfl⟩
    refine vc_stM ?_
    refine vc_seq fun K7 hK7 => ?_
    refine vc_seq fun K8 hK8 => ?_
    refine vc_region ?_
    refine vo_move_pv rfl rfl ?_
    refine vo_move_pv rfl rfl ?_
    refine vo_len_pv rfl rfl Try.underlying56 ?_
    refine vo_binI rfl rfl rfl rfl trivial ?_
    refine vo_nil ?_
    refine hK8 _ ?_
    refine vc_cond rfl (fun hc2 => ?_) (fun hc2 => ?_)
    · try simp only [decide_eq_true_eq, decide_eq_false_iff_not, beq_iff_eq, bne_iff_ne, beq_eq_false_iff_ne, bne_eq_false_iff_eq, Bool.not_eq_true, Bool.not_eq_false, Bool.not_eq_eq_eq_not, Bool.not_true, Bool.not_false, List.length_map, Int.not_lt, Int.not_le, ne_eq, Decidable.not_not] at hc2
      refine vc_skip ?_
      refine hK7 _ ?_
      refine vc_seq fun K9 hK9 => ?_
      refine vc_block ?_
      refine vc_seq fun K10 hK10 => ?_
      refine vc_draw (by kernel_rfl) ?_
      change VD _ _ _ 10 _ _ _
      refine vd_light 0 rfl rfl rfl (by kernel_rfl) (by kernel_rfl) (by kernel_rfl) (wnt_none rfl) (lt_move_pv rfl) ?_
      refine vd_light 1 rfl rfl rfl (by kernel_rfl) (by kernel_rfl) (by kernel_rfl) (wnt_none rfl) (lt_move_pv rfl) ?_
      refine vd_light 2 rfl rfl rfl (by kernel_rfl) (by kernel_rfl) (by kernel_rfl) (wnt_none rfl) (lt_index_pv (.agg [(.bool false), (.sl none 1 []), (.sl none 1 []), (.sl none 2 [])]) rfl rfl E56.und inf70 sz70 sd sd) ?_
      simp only [Int.toNat_natCast, Int.toNat_zero, getD_ints, getD_intss, getD_bools, getD_bytes, PV.cells, getD_ops, getD_pairs, getD_insts]
      refine vd_light 3 rfl rfl rfl (by kernel_rfl) (by kernel_rfl) (by kernel_rfl) (wnt_none rfl) (lt_load_adrS rfl Try.underlying70 rfl inf70 sz70 rfl) ?_
      refine vd_st (by (try simp only [St.put, PV.cells, PV.scal, List.drop_succ_cons, List.drop_zero, List.take_succ_cons, List.take_zero, List.map_cons, List.map_nil, Bool.or_true, Bool.or_false, Bool.false_or, Bool.true_or, opP, pairP, instP, heapP]); exact eq_refl _) ?_
      refine vd_light 4 rfl rfl rfl (by kernel_rfl) (by kernel_rfl) (by kernel_rfl) (wnt_none rfl) (lt_move_pv rfl) ?_
      refine vd_light 5 rfl rfl rfl (by kernel_rfl) (by kernel_rfl) (by kernel_rfl) (wnt_none rfl) (lt_move_pv rfl) ?_
      refine vd_light 6 rfl rfl rfl (by kernel_rfl) (by kernel_rfl) (by kernel_rfl) (wnt_none rfl) (lt_index_pv (.agg [(.bool false), (.sl none 1 []), (.sl none 1 []), (.sl none 2 [])]) rfl rfl E56.und inf70 sz70 sd sd) ?_
      simp only [Int.toNat_natCast, Int.toNat_zero, getD_ints, getD_intss, getD_bools, getD_bytes, PV.cells, getD_ops, getD_pairs, getD_insts]
      refine vd_light 7 rfl rfl rfl (by kernel_rfl) (by kernel_rfl) (by kernel_rfl) (wnt_none rfl) (lt_load_adrS rfl Try.underlying70 rfl inf70 sz70 rfl) ?_
      refine vd_st (by (try simp only [St.put, PV.cells, PV.scal, List.drop_succ_cons, List.drop_zero, List.take_succ_cons, List.take_zero, List.map_cons, List.map_nil, Bool.or_true, Bool.or_false, Bool.false_or, Bool.true_or, opP, pairP, instP, heapP]); exact eq_refl _) ?_
      refine vd_call 8 rfl (by kernel_rfl) (wnt_none rfl) Try.func107 rfl rfl rfl rfl (eqInst_sat (getD_all hsa _ SI_zero _) (getD_all hsb _ SI_zero _)) ?_
      rintro _ _ ⟨rfl, rfl⟩
      refine ⟨rfl, rfl, .inl rfl, ?_⟩
      refine vd_stM ?_
      refine vd_light 9 rfl rfl rfl (by kernel_rfl) (by kernel_rfl) (by kernel_rfl) (wnt_none rfl) (lt_not rfl) ?_
      refine vd_nil (by kernel_rfl) ?_
      refine hK10 _ ?_
      refine vc_cond rfl (fun hc3 => ?_) (fun hc3 => ?_)
      · try simp only [decide_eq_true_eq, decide_eq_false_iff_not, beq_iff_eq, bne_iff_ne, beq_eq_false_iff_ne, bne_eq_false_iff_eq, Bool.not_eq_true, Bool.not_eq_false, Bool.not_eq_eq_eq_not, Bool.not_true, Bool.not_false, List.length_map, Int.not_lt, Int.not_le, ne_eq, Decidable.not_not] at hc3
        refine vc_seq fun K11 hK11 => ?_
        refine vc_region ?_
        refine vo_assign_pv rfl rfl ?_
        refine vo_nil ?_
        refine hK11 _ ?_
        refine vc_ret ?_
        change retQ _ _ _ _ _
        refine retQ_sel [] (srows := []) (.inr rfl) hC rfl rfl rfl rfl rfl rfl rfl ?_
        refine ⟨?_, rfl⟩
        refine (congrArg (fun b => [bo b]) (?_ : _ = _) : [bo _] = [bo _])
        exact bF fun h => hc3 (by rw [h])
      · try simp only [decide_eq_true_eq, decide_eq_false_iff_not, beq_iff_eq, bne_iff_ne, beq_eq_false_iff_ne, bne_eq_false_iff_eq, Bool.not_eq_true, Bool.not_eq_false, Bool.not_eq_eq_eq_not, Bool.not_true, Bool.not_false, List.length_map, Int.not_lt, Int.not_le, ne_eq, Decidable.not_not] at hc3
        refine vc_skip ?_
        refine hK9 _ ?_
        refine vc_region ?_
        refine vo_move_pv rfl rfl ?_
        refine vo_binI rfl rfl rfl rfl sd ?_
        refine vo_assign_pv rfl rfl ?_
        refine vo_nil ?_
        change againE _ _ _ _ _ _ _ _ _ _
        refine againE_mk rfl rfl rfl rfl rfl rfl ⟨_, ?_, k + 1, rfl, ?_, ?_, rfl, rfl⟩
        · omega
        · omega
        · exact (take_eqS ⟨false, [], [], []⟩ (by omega) (by omega)).2 ⟨hf, by first | assumption | (simpa using hc3)⟩
    · try simp only [decide_eq_true_eq, decide_eq_false_iff_not, beq_iff_eq, bne_iff_ne, beq_eq_false_iff_ne, bne_eq_false_iff_eq, Bool.not_eq_true, Bool.not_eq_false, Bool.not_eq_eq_eq_not, Bool.not_true, Bool.not_false, List.length_map, Int.not_lt, Int.not_le, ne_eq, Decidable.not_not] at hc2
      refine vc_exit ?_
      refine hK5 _ ?_
      refine vc_seq fun K12 hK12 => ?_
      refine vc_region ?_
      refine vo_assign_pv rfl rfl ?_
      refine vo_nil ?_
      refine hK12 _ ?_
      refine vc_ret ?_
      change retQ _ _ _ _ _
      refine retQ_sel [] (srows := []) (.inr rfl) hC rfl rfl rfl rfl rfl rfl rfl ?_
      refine ⟨?_, rfl⟩
      refine (congrArg (fun b => [bo b]) (?_ : _ = _) : [bo _] = [bo _])
      rw [take_all (by omega), take_all (by omega)] at hf; exact bT hf


theorem eqHeap_sat {a : HeapM} {b : HeapM}  (ha : SH a) (hb : SH b) : SatAt Try.prog 38 [.pv false (heapP a), .pv false (heapP b)] [] (fun res rows => res = [bo (decide (a = b))] ∧ rows = []) := by
  obtain ⟨a1, a2, a3⟩ := ha
  obtain ⟨b1, b2, b3⟩ := hb
  refine sat_entry_G (rs := [(4, none)]) Try.func38 rfl rfl (Nat.le_of_ble_eq_true rfl) (Nat.le_of_ble_eq_true rfl) (resTs1 trivial) fun C hC => ?_
  rw [Try.ntmps38]
  replace hC : C.nb = 0 := hC
  refine vc_seq fun K1 hK1 => ?_
  refine vc_region ?_
  refine vo_box rfl rfl ?_
  refine vo_stM ?_
  refine vo_box rfl rfl ?_
  refine vo_stM ?_
  refine vo_assign_pv rfl rfl ?_
  refine vo_nil ?_
  refine hK1 _ ?_
  refine vc_seq fun K2 hK2 => ?_
  refine vc_seq fun K3 hK3 => ?_
  refine vc_region ?_
  refine vo_fieldAddr_ptr rfl rfl Try.underlying58 rfl inf50 (by rw [sz50]; decide) ?_
  try simp only [Nat.zero_add]
  refine vo_load_var rfl rfl rfl Try.underlying50 rfl rfl ?_
  refine vo_fieldAddr_ptr rfl rfl Try.underlying58 rfl inf50 (by rw [sz50]; decide) ?_
  try simp only [Nat.zero_add]
  refine vo_load_var rfl rfl rfl Try.underlying50 rfl rfl ?_
  refine vo_call0 Try.func79 rfl rfl rfl rfl (eqIntS_sat (by omega) (by omega)) ?_
  rintro _ _ ⟨rfl, rfl⟩
  refine ⟨rfl, rfl, .inl rfl, ?_⟩
  refine vo_stM ?_
  refine vo_not rfl rfl ?_
  refine vo_nil ?_
  refine hK3 _ ?_
  refine vc_cond rfl (fun hc1 => ?_) (fun hc1 => ?_)
  · try simp only [decide_eq_true_eq, decide_eq_false_iff_not, beq_iff_eq, bne_iff_ne, beq_eq_false_iff_ne, bne_eq_false_iff_eq, Bool.not_eq_true, Bool.not_eq_false, Bool.not_eq_eq_eq_not, Bool.not_true, Bool.not_false, List.length_map, Int.not_lt, Int.not_le, ne_eq, Decidable.not_not] at hc1
    refine vc_seq fun K4 hK4 => ?_
    refine vc_region ?_
    refine vo_assign_pv rfl rfl ?_
    refine vo_nil ?_
    refine hK4 _ ?_
    refine vc_ret ?_
    change retQ _ _ _ _ _
    refine retQ_sel [] (srows := []) (.inr rfl) hC rfl rfl rfl rfl rfl rfl rfl ?_
    refine ⟨?_, rfl⟩
    refine (congrArg (fun b => [bo b]) (?_ : _ = _) : [bo _] = [bo _])
    cases a; cases b; simp_all
  · try simp only [decide_eq_true_eq, decide_eq_false_iff_not, beq_iff_eq, bne_iff_ne, beq_eq_false_iff_ne, bne_eq_false_iff_eq, Bool.not_eq_true, Bool.not_eq_false, Bool.not_eq_eq_eq_not, Bool.not_true, Bool.not_false, List.length_map, Int.not_lt, Int.not_le, ne_eq, Decidable.not_not] at hc1
    refine vc_skip ?_
    refine hK2 _ ?_
    refine vc_seq fun K5 hK5 => ?_
    refine vc_seq fun K6 hK6 => ?_
    refine vc_region ?_
    refine vo_fieldAddr_ptr rfl rfl Try.underlying58 rfl inf56 (by rw [sz56]; decide) ?_
    try simp only [Nat.zero_add]
    refine vo_load_var rfl rfl rfl Try.underlying56 rfl rfl ?_
    refine vo_fieldAddr_ptr rfl rfl Try.underlying58 rfl inf56 (by rw [sz56]; decide) ?_
    try simp only [Nat.zero_add]
    refine vo_load_var rfl rfl rfl Try.underlying56 rfl rfl ?_
    refine vo_call0 Try.func80 rfl rfl rfl rfl (eqInstS_sat (by omega) (by omega) a3 b3) ?_
    rintro _ _ ⟨rfl, rfl⟩
    refine ⟨rfl, rfl, .inl rfl, ?_⟩
    refine vo_stM ?_
    refine vo_not rfl rfl ?_
    refine vo_nil ?_
    refine hK6 _ ?_
    refine vc_cond rfl (fun hc2 => ?_) (fun hc2 => ?_)
    · try simp only [decide_eq_true_eq, decide_eq_false_iff_not, beq_iff_eq, bne_iff_ne, beq_eq_false_iff_ne, bne_eq_false_iff_eq, Bool.not_eq_true, Bool.not_eq_false, Bool.not_eq_eq_eq_not, Bool.not_true, Bool.not_false, List.length_map, Int.not_lt, Int.not_le, ne_eq, Decidable.not_not] at hc2
      refine vc_seq fun K7 hK7 => ?_
      refine vc_region ?_
      refine vo_assign_pv rfl rfl ?_
      refine vo_nil ?_
      refine hK7 _ ?_
      refine vc_ret ?_
      change retQ _ _ _ _ _
      refine retQ_sel [] (srows := []) (.inr rfl) hC rfl rfl rfl rfl rfl rfl rfl ?_
      refine ⟨?_, rfl⟩
      refine (congrArg (fun b => [bo b]) (?_ : _ = _) : [bo _] = [bo _])
      cases a; cases b; simp_all
    · try simp only [decide_eq_true_eq, decide_eq_false_iff_not, beq_iff_eq, bne_iff_ne, beq_eq_false_iff_ne, bne_eq_false_iff_eq, Bool.not_eq_true, Bool.not_eq_false, Bool.not_eq_eq_eq_not, Bool.not_true, Bool.not_false, List.length_map, Int.not_lt, Int.not_le, ne_eq, Decidable.not_not] at hc2
      refine vc_skip ?_
      refine hK5 _ ?_
      refine vc_seq fun K8 hK8 => ?_
      refine vc_region ?_
      refine vo_assign_pv rfl rfl ?_
      refine vo_nil ?_
      refine hK8 _ ?_
      refine vc_ret ?_
      change retQ _ _ _ _ _
      refine retQ_sel [] (srows := []) (.inr rfl) hC rfl rfl rfl rfl rfl rfl rfl ?_
      refine ⟨?_, rfl⟩
      refine (congrArg (fun b => [bo b]) (?_ : _ = _) : [bo _] = [bo _])
      cases a; cases b; simp_all


theorem szInst_sat {a : InstM} {left : Int}  (ha : GI63 a) (h0 : 0 ≤ left) (h1 : left ≤ 1048576) : SatAt Try.prog 98 [.pv false (instP a), i64 left] [] (fun res rows => ∃ v : Int, (v < 0 ∨ (0 ≤ v ∧ v ≤ left ∧ SI a)) ∧ res = [i64 v] ∧ rows = []) := by
  unfold GI63 at ha
  refine sat_entry_G (rs := [(4, none)]) Try.func98 rfl rfl (Nat.le_of_ble_eq_true rfl) (Nat.le_of_ble_eq_true rfl) (resTs1 trivial) fun C hC => ?_
  rw [Try.ntmps98]
  replace hC : C.nb = 0 := hC
  refine vc_seq fun K1 hK1 => ?_
  refine vc_region ?_
  refine vo_box rfl rfl ?_
  refine vo_stM ?_
  refine vo_assign_pv rfl rfl ?_
  refine vo_nil ?_
  refine hK1 _ ?_
  refine vc_seq fun K2 hK2 => ?_
  refine vc_region ?_
  refine vo_fieldAddr_ptr rfl rfl Try.underlying122 rfl inf50 (by rw [sz50]; decide) ?_
  try simp only [Nat.zero_add]
  refine vo_load_var rfl rfl rfl Try.underlying50 rfl rfl ?_
  refine vo_move_pv rfl rfl ?_
  refine vo_call0 Try.func71 rfl rfl rfl rfl (szIntS_sat (by omega) (by omega) (by omega)) ?_
  rintro _ _ ⟨rfl, rfl⟩
  refine ⟨rfl, rfl, .inl rfl, ?_⟩
  refine vo_stM ?_
  refine vo_assign_pv rfl rfl ?_
  refine vo_nil ?_
  refine hK2 _ ?_
  refine vc_seq fun K3 hK3 => ?_
  refine vc_seq fun K4 hK4 => ?_
  refine vc_region ?_
  refine vo_move_pv rfl rfl ?_
  refine vo_binI rfl rfl rfl rfl trivial ?_
  refine vo_nil ?_
  refine hK4 _ ?_
  refine vc_cond rfl (fun hc1 => ?_) (fun hc1 => ?_)
  · try simp only [decide_eq_true_eq, decide_eq_false_iff_not, beq_iff_eq, bne_iff_ne, beq_eq_false_iff_ne, bne_eq_false_iff_eq, Bool.not_eq_true, Bool.not_eq_false, Bool.not_eq_eq_eq_not, Bool.not_true, Bool.not_false, List.length_map, Int.not_lt, Int.not_le, ne_eq, Decidable.not_not] at hc1
    refine vc_seq fun K5 hK5 => ?_
    refine vc_region ?_
    refine vo_assign_pv rfl rfl ?_
    refine vo_nil ?_
    refine hK5 _ ?_
    refine vc_ret ?_
    change retQ _ _ _ _ _
    refine retQ_sel [] (srows := []) (.inr rfl) hC rfl rfl rfl rfl rfl rfl rfl ?_
    exact ⟨_, .inl (by omega), rfl, rfl⟩
  · try simp only [decide_eq_true_eq, decide_eq_false_iff_not, beq_iff_eq, bne_iff_ne, beq_eq_false_iff_ne, bne_eq_false_iff_eq, Bool.not_eq_true, Bool.not_eq_false, Bool.not_eq_eq_eq_not, Bool.not_true, Bool.not_false, List.length_map, Int.not_lt, Int.not_le, ne_eq, Decidable.not_not] at hc1
    refine vc_skip ?_
    refine hK3 _ ?_
    refine vc_seq fun K6 hK6 => ?_
    refine vc_region ?_
    refine vo_fieldAddr_ptr rfl rfl Try.underlying122 rfl inf50 (by rw [sz50]; decide) ?_
    try simp only [Nat.zero_add]
    refine vo_load_var rfl rfl rfl Try.underlying50 rfl rfl ?_
    refine vo_move_pv rfl rfl ?_
    refine vo_call0 Try.func71 rfl rfl rfl rfl (szIntS_sat (by omega) (by omega) (by omega)) ?_
    rintro _ _ ⟨rfl, rfl⟩
    refine ⟨rfl, rfl, .inl rfl, ?_⟩
    refine vo_stM ?_
    refine vo_assign_pv rfl rfl ?_
    refine vo_nil ?_
    refine hK6 _ ?_
    refine vc_seq fun K7 hK7 => ?_
    refine vc_seq fun K8 hK8 => ?_
    refine vc_region ?_
    refine vo_move_pv rfl rfl ?_
    refine vo_binI rfl rfl rfl rfl trivial ?_
    refine vo_nil ?_
    refine hK8 _ ?_
    refine vc_cond rfl (fun hc2 => ?_) (fun hc2 => ?_)
    · try simp only [decide_eq_true_eq, decide_eq_false_iff_not, beq_iff_eq, bne_iff_ne, beq_eq_false_iff_ne, bne_eq_false_iff_eq, Bool.not_eq_true, Bool.not_eq_false, Bool.not_eq_eq_eq_not, Bool.not_true, Bool.not_false, List.length_map, Int.not_lt, Int.not_le, ne_eq, Decidable.not_not] at hc2
      refine vc_seq fun K9 hK9 => ?_
      refine vc_region ?_
      refine vo_assign_pv rfl rfl ?_
      refine vo_nil ?_
      refine hK9 _ ?_
      refine vc_ret ?_
      change retQ _ _ _ _ _
      refine retQ_sel [] (srows := []) (.inr rfl) hC rfl rfl rfl rfl rfl rfl rfl ?_
      exact ⟨_, .inl (by omega), rfl, rfl⟩
    · try simp only [decide_eq_true_eq, decide_eq_false_iff_not, beq_iff_eq, bne_iff_ne, beq_eq_false_iff_ne, bne_eq_false_iff_eq, Bool.not_eq_true, Bool.not_eq_false, Bool.not_eq_eq_eq_not, Bool.not_true, Bool.not_false, List.length_map, Int.not_lt, Int.not_le, ne_eq, Decidable.not_not] at hc2
      refine vc_skip ?_
      refine hK7 _ ?_
      refine vc_seq fun K10 hK10 => ?_
      refine vc_region ?_
      refine vo_fieldAddr_ptr rfl rfl Try.underlying122 rfl inf38 (by rw [sz38]; decide) ?_
      try simp only [Nat.zero_add]
      refine vo_load_var rfl rfl rfl Try.underlying38 rfl rfl ?_
      refine vo_move_pv rfl rfl ?_
      refine vo_call0 Try.func24 rfl rfl rfl rfl (szPairS_sat (by omega) (by omega)) ?_
      rintro _ _ ⟨rfl, rfl⟩
      refine ⟨rfl, rfl, .inl rfl, ?_⟩
      refine vo_stM ?_
      refine vo_assign_pv rfl rfl ?_
      refine vo_nil ?_
      refine hK10 _ ?_
      refine vc_seq fun K11 hK11 => ?_
      refine vc_seq fun K12 hK12 => ?_
      refine vc_region ?_
      refine vo_move_pv rfl rfl ?_
      refine vo_binI rfl rfl rfl rfl trivial ?_
      refine vo_nil ?_
      refine hK12 _ ?_
      refine vc_cond rfl (fun hc3 => ?_) (fun hc3 => ?_)
      · try simp only [decide_eq_true_eq, decide_eq_false_iff_not, beq_iff_eq, bne_iff_ne, beq_eq_false_iff_ne, bne_eq_false_iff_eq, Bool.not_eq_true, Bool.not_eq_false, Bool.not_eq_eq_eq_not, Bool.not_true, Bool.not_false, List.length_map, Int.not_lt, Int.not_le, ne_eq, Decidable.not_not] at hc3
        refine vc_seq fun K13 hK13 => ?_
        refine vc_region ?_
        refine vo_assign_pv rfl rfl ?_
        refine vo_nil ?_
        refine hK13 _ ?_
        refine vc_ret ?_
        change retQ _ _ _ _ _
        refine retQ_sel [] (srows := []) (.inr rfl) hC rfl rfl rfl rfl rfl rfl rfl ?_
        exact ⟨_, .inl (by omega), rfl, rfl⟩
      · try simp only [decide_eq_true_eq, decide_eq_false_iff_not, beq_iff_eq, bne_iff_ne, beq_eq_false_iff_ne, bne_eq_false_iff_eq, Bool.not_eq_true, Bool.not_eq_false, Bool.not_eq_eq_eq_not, Bool.not_true, Bool.not_false, List.length_map, Int.not_lt, Int.not_le, ne_eq, Decidable.not_not] at hc3
        refine vc_skip ?_
        refine hK11 _ ?_
        refine vc_seq fun K14 hK14 => ?_
        refine vc_region ?_
        refine vo_move_pv rfl rfl ?_
        refine vo_assign_pv rfl rfl ?_
        refine vo_nil ?_
        refine hK14 _ ?_
        refine vc_ret ?_
        change retQ _ _ _ _ _
        refine retQ_sel [] (srows := []) (.inr rfl) hC rfl rfl rfl rfl rfl rfl rfl ?_
        refine ⟨_, .inr ?_, rfl, rfl⟩
        unfold SI
        repeat (first | omega | split at *)


theorem szInstS_sat {nl0 : Option Bool} {a : List InstM} {left : Int}  (ha : a.length ≤ 9223372036854775807) (hg : ∀ x ∈ a, GI63 x) (h0 : 0 ≤ left) (h1 : left ≤ 1048576) : SatAt Try.prog 72 [.pv false (.sl nl0 4 (a.map instP)), i64 left] [] (fun res rows => ∃ v : Int, (v < 0 ∨ (0 ≤ v ∧ v ≤ left ∧ a.length ≤ 2000000 ∧ ∀ x ∈ a, SI x)) ∧ res = [i64 v] ∧ rows = []) := by
  refine sat_entry_G (rs := [(4, none)]) Try.func72 rfl rfl (Nat.le_of_ble_eq_true rfl) (Nat.le_of_ble_eq_true rfl) (resTs1 trivial) fun C hC => ?_
  rw [Try.ntmps72]
  replace hC : C.nb = 0 := hC
  refine vc_seq fun K1 hK1 => ?_
  refine vc_region ?_
  refine vo_assign_pv rfl rfl ?_
  refine vo_nil ?_
  refine hK1 _ ?_
  refine vc_seq fun K2 hK2 => ?_
  refine vc_region ?_
  refine vo_move_pv rfl rfl ?_
  refine vo_move_pv rfl rfl ?_
  refine vo_len_pv rfl rfl Try.underlying51 ?_
  refine vo_binI rfl rfl rfl rfl sd ?_
  refine vo_assign_pv rfl rfl ?_
  refine vo_nil ?_
  refine hK2 _ ?_
  refine vc_seq fun K3 hK3 => ?_
  refine vc_seq fun K4 hK4 => ?_
  refine vc_region ?_
  refine vo_move_pv rfl rfl ?_
  refine vo_binI rfl rfl rfl rfl trivial ?_
  refine vo_nil ?_
  refine hK4 _ ?_
  refine vc_cond rfl (fun hc1 => ?_) (fun hc1 => ?_)
  · try simp only [decide_eq_true_eq, decide_eq_false_iff_not, beq_iff_eq, bne_iff_ne, beq_eq_false_iff_ne, bne_eq_false_iff_eq, Bool.not_eq_true, Bool.not_eq_false, Bool.not_eq_eq_eq_not, Bool.not_true, Bool.not_false, List.length_map, Int.not_lt, Int.not_le, ne_eq, Decidable.not_not] at hc1
    refine vc_seq fun K5 hK5 => ?_
    refine vc_region ?_
    refine vo_assign_pv rfl rfl ?_
    refine vo_nil ?_
    refine hK5 _ ?_
    refine vc_ret ?_
    change retQ _ _ _ _ _
    refine retQ_sel [] (srows := []) (.inr rfl) hC rfl rfl rfl rfl rfl rfl rfl ?_
    exact ⟨_, .inl (by omega), rfl, rfl⟩
  · try simp only [decide_eq_true_eq, decide_eq_false_iff_not, beq_iff_eq, bne_iff_ne, beq_eq_false_iff_ne, bne_eq_false_iff_eq, Bool.not_eq_true, Bool.not_eq_false, Bool.not_eq_eq_eq_not, Bool.not_true, Bool.not_false, List.length_map, Int.not_lt, Int.not_le, ne_eq, Decidable.not_not] at hc1
    refine vc_skip ?_
    refine hK3 _ ?_
    refine vc_seq fun K6 hK6 => ?_
    refine vc_seq fun K7 hK7 => ?_
    refine vc_region ?_
    refine vo_assign_pv rfl rfl ?_
    refine vo_nil ?_
    refine hK7 _ ?_
    refine vc_block ?_
    refine vc_stM ?_
    refine vc_loopE [0] [1, 5] [] _ _ (fun mz vs rs => ∃ (k : Nat) (y : Int), mz = a.length - k ∧ (k ≤ a.length) ∧ ((0 ≤ y ∧ y ≤ left)) ∧ ((∀ x ∈ a.take k, SI x)) ∧ vs = [i64 y, i64 k] ∧ rs = []) (a.length) rfl rfl (le_len hC rfl) ⟨rfl, rfl, rfl⟩ rfl ⟨0, _, rfl, Nat.zero_le _, (by simp at *; omega), (by simp), rfl, rfl⟩ ?_
    rintro mz vs rs - - ⟨k, y, rfl, hk, hy, hf, rfl, rfl⟩
    refine vc_stM ?_
    refine vc_seq fun K8 hK8 => ?_
    refine vc_seq fun K9 hK9 => ?_
    refine vc_region ?_
    refine vo_move_pv rfl rfl ?_
    refine vo_move_pv rfl rfl ?_
    refine vo_len_pv rfl rfl Try.underlying51 ?_
    refine vo_binI rfl rfl rfl rfl trivial ?_
    refine vo_nil ?_
    refine hK9 _ ?_
    refine vc_cond rfl (fun hc2 => ?_) (fun hc2 => ?_)
    · try simp only [decide_eq_true_eq, decide_eq_false_iff_not, beq_iff_eq, bne_iff_ne, beq_eq_false_iff_ne, bne_eq_false_iff_eq, Bool.not_eq_true, Bool.not_eq_false, Bool.not_eq_eq_eq_not, Bool.not_true, Bool.not_false, List.length_map, Int.not_lt, Int.not_le, ne_eq, Decidable.not_not] at hc2
      refine vc_skip ?_
      refine hK8 _ ?_
      refine vc_seq fun K10 hK10 => ?_
      refine vc_block ?_
      refine vc_seq fun K11 hK11 => ?_
      refine vc_region ?_
      refine vo_move_pv rfl rfl ?_
      refine vo_move_pv rfl rfl ?_
      refine vo_index_pv (.agg [(.bool false), (.sl none 1 []), (.sl none 1 []), (.sl none 2 [])]) rfl rfl rfl E51.und inf122 sz122 sd sd ?_
      simp only [Int.toNat_natCast, Int.toNat_zero, getD_ints, getD_intss, getD_bools, getD_bytes, PV.cells, getD_ops, getD_pairs, getD_insts]
      refine vo_load_adrS rfl rfl Try.underlying122 rfl inf122 sz122 rfl ?_
      refine vo_st (by (try simp only [St.put, PV.cells, PV.scal, List.drop_succ_cons, List.drop_zero, List.take_succ_cons, List.take_zero, List.map_cons, List.map_nil, Bool.or_true, Bool.or_false, Bool.false_or, Bool.true_or, opP, pairP, instP, heapP]); exact eq_refl _) ?_
      refine vo_move_pv rfl rfl ?_
      refine vo_call0 Try.func98 rfl rfl rfl rfl (szInst_sat (getD_all hg _ ⟨by simp, by simp, by simp⟩ _) hy.1 (by omega)) ?_
      rintro _ _ ⟨v, hv, rfl, rfl⟩
      refine ⟨rfl, rfl, .inl rfl, ?_⟩
      refine vo_stM ?_
      refine vo_assign_pv rfl rfl ?_
      refine vo_nil ?_
      refine hK11 _ ?_
      refine vc_seq fun K12 hK12 => ?_
      refine vc_region ?_
      refine vo_move_pv rfl rfl ?_
      refine vo_binI rfl rfl rfl rfl trivial ?_
      refine vo_nil ?_
      refine hK12 _ ?_
      refine vc_cond rfl (fun hc3 => ?_) (fun hc3 => ?_)
      · try simp only [decide_eq_true_eq, decide_eq_false_iff_not, beq_iff_eq, bne_iff_ne, beq_eq_false_iff_ne, bne_eq_false_iff_eq, Bool.not_eq_true, Bool.not_eq_false, Bool.not_eq_eq_eq_not, Bool.not_true, Bool.not_false, List.length_map, Int.not_lt, Int.not_le, ne_eq, Decidable.not_not] at hc3
        refine vc_seq fun K13 hK13 => ?_
        refine vc_region ?_
        refine vo_assign_pv rfl rfl ?_
        refine vo_nil ?_
        refine hK13 _ ?_
        refine vc_ret ?_
        change retQ _ _ _ _ _
        refine retQ_sel [] (srows := []) (.inr rfl) hC rfl rfl rfl rfl rfl rfl rfl ?_
        exact ⟨_, .inl (by omega), rfl, rfl⟩
      · try simp only [decide_eq_true_eq, decide_eq_false_iff_not, beq_iff_eq, bne_iff_ne, beq_eq_false_iff_ne, bne_eq_false_iff_eq, Bool.not_eq_true, Bool.not_eq_false, Bool.not_eq_eq_eq_not, Bool.not_true, Bool.not_false, List.length_map, Int.not_lt, Int.not_le, ne_eq, Decidable.not_not] at hc3
        refine vc_skip ?_
        refine hK10 _ ?_
        refine vc_region ?_
        refine vo_move_pv rfl rfl ?_
        refine vo_binI rfl rfl rfl rfl sd ?_
        refine vo_assign_pv rfl rfl ?_
        refine vo_nil ?_
        change againE _ _ _ _ _ _ _ _ _ _
        refine againE_mk rfl rfl rfl rfl rfl rfl ⟨_, ?_, k + 1, _, rfl, ?_, ?_, ?_, rfl, rfl⟩
        · omega
        · omega
        · omega
        · refine (all_take_succ (by omega) ⟨false, [], [], []⟩).2 ⟨hf, ?_⟩; rcases hv with hv | hv; omega; exact hv.2.2
    · try simp only [decide_eq_true_eq, decide_eq_false_iff_not, beq_iff_eq, bne_iff_ne, beq_eq_false_iff_ne, bne_eq_false_iff_eq, Bool.not_eq_true, Bool.not_eq_false, Bool.not_eq_eq_eq_not, Bool.not_true, Bool.not_false, List.length_map, Int.not_lt, Int.not_le, ne_eq, Decidable.not_not] at hc2
      refine vc_exit ?_
      refine hK6 _ ?_
      refine vc_seq fun K14 hK14 => ?_
      refine vc_region ?_
      refine vo_move_pv rfl rfl ?_
      refine vo_assign_pv rfl rfl ?_
      refine vo_nil ?_
      refine hK14 _ ?_
      refine vc_ret ?_
      change retQ _ _ _ _ _
      refine retQ_sel [] (srows := []) (.inr rfl) hC rfl rfl rfl rfl rfl rfl rfl ?_
      refine ⟨_, .inr ⟨by omega, by omega, by omega, ?_⟩, rfl, rfl⟩
      rwa [take_all (by omega)] at hf


theorem szHeap_sat {a : HeapM} {left : Int}  (ha : GH63 a) (h0 : 0 ≤ left) (h1 : left ≤ 1048576) : SatAt Try.prog 34 [.pv false (heapP a), i64 left] [] (fun res rows => ∃ v : Int, (v < 0 ∨ (0 ≤ v ∧ v ≤ left ∧ SH a)) ∧ res = [i64 v] ∧ rows = []) := by
  obtain ⟨a1, a2, a3⟩ := ha
  refine sat_entry_G (rs := [(4, none)]) Try.func34 rfl rfl (Nat.le_of_ble_eq_true rfl) (Nat.le_of_ble_eq_true rfl) (resTs1 trivial) fun C hC => ?_
  rw [Try.ntmps34]
  replace hC : C.nb = 0 := hC
  refine vc_seq fun K1 hK1 => ?_
  refine vc_region ?_
  refine vo_box rfl rfl ?_
  refine vo_stM ?_
  refine vo_assign_pv rfl rfl ?_
  refine vo_nil ?_
  refine hK1 _ ?_
  refine vc_seq fun K2 hK2 => ?_
  refine vc_region ?_
  refine vo_fieldAddr_ptr rfl rfl Try.underlying53 rfl inf50 (by rw [sz50]; decide) ?_
  try simp only [Nat.zero_add]
  refine vo_load_var rfl rfl rfl Try.underlying50 rfl rfl ?_
  refine vo_move_pv rfl rfl ?_
  refine vo_call0 Try.func71 rfl rfl rfl rfl (szIntS_sat (by omega) (by omega) (by omega)) ?_
  rintro _ _ ⟨rfl, rfl⟩
  refine ⟨rfl, rfl, .inl rfl, ?_⟩
  refine vo_stM ?_
  refine vo_assign_pv rfl rfl ?_
  refine vo_nil ?_
  refine hK2 _ ?_
  refine vc_seq fun K3 hK3 => ?_
  refine vc_seq fun K4 hK4 => ?_
  refine vc_region ?_
  refine vo_move_pv rfl rfl ?_
  refine vo_binI rfl rfl rfl rfl trivial ?_
  refine vo_nil ?_
  refine hK4 _ ?_
  refine vc_cond rfl (fun hc1 => ?_) (fun hc1 => ?_)
  · try simp only [decide_eq_true_eq, decide_eq_false_iff_not, beq_iff_eq, bne_iff_ne, beq_eq_false_iff_ne, bne_eq_false_iff_eq, Bool.not_eq_true, Bool.not_eq_false, Bool.not_eq_eq_eq_not, Bool.not_true, Bool.not_false, List.length_map, Int.not_lt, Int.not_le, ne_eq, Decidable.not_not] at hc1
    refine vc_seq fun K5 hK5 => ?_
    refine vc_region ?_
    refine vo_assign_pv rfl rfl ?_
    refine vo_nil ?_
    refine hK5 _ ?_
    refine vc_ret ?_
    change retQ _ _ _ _ _
    refine retQ_sel [] (srows := []) (.inr rfl) hC rfl rfl rfl rfl rfl rfl rfl ?_
    exact ⟨_, .inl (by omega), rfl, rfl⟩
  · try simp only [decide_eq_true_eq, decide_eq_false_iff_not, beq_iff_eq, bne_iff_ne, beq_eq_false_iff_ne, bne_eq_false_iff_eq, Bool.not_eq_true, Bool.not_eq_false, Bool.not_eq_eq_eq_not, Bool.not_true, Bool.not_false, List.length_map, Int.not_lt, Int.not_le, ne_eq, Decidable.not_not] at hc1
    split at hc1
    · omega
    refine vc_skip ?_
    refine hK3 _ ?_
    refine vc_seq fun K6 hK6 => ?_
    refine vc_region ?_
    refine vo_fieldAddr_ptr rfl rfl Try.underlying53 rfl inf51 (by rw [sz51]; decide) ?_
    try simp only [Nat.zero_add]
    refine vo_load_var rfl rfl rfl Try.underlying51 rfl rfl ?_
    refine vo_move_pv rfl rfl ?_
    refine vo_call0 Try.func72 rfl rfl rfl rfl (szInstS_sat a2 a3 (by omega) (by omega)) ?_
    rintro _ _ ⟨v, hv, rfl, rfl⟩
    refine ⟨rfl, rfl, .inl rfl, ?_⟩
    refine vo_stM ?_
    refine vo_assign_pv rfl rfl ?_
    refine vo_nil ?_
    refine hK6 _ ?_
    refine vc_seq fun K7 hK7 => ?_
    refine vc_seq fun K8 hK8 => ?_
    refine vc_region ?_
    refine vo_move_pv rfl rfl ?_
    refine vo_binI rfl rfl rfl rfl trivial ?_
    refine vo_nil ?_
    refine hK8 _ ?_
    refine vc_cond rfl (fun hc2 => ?_) (fun hc2 => ?_)
    · try simp only [decide_eq_true_eq, decide_eq_false_iff_not, beq_iff_eq, bne_iff_ne, beq_eq_false_iff_ne, bne_eq_false_iff_eq, Bool.not_eq_true, Bool.not_eq_false, Bool.not_eq_eq_eq_not, Bool.not_true, Bool.not_false, List.length_map, Int.not_lt, Int.not_le, ne_eq, Decidable.not_not] at hc2
      refine vc_seq fun K9 hK9 => ?_
      refine vc_region ?_
      refine vo_assign_pv rfl rfl ?_
      refine vo_nil ?_
      refine hK9 _ ?_
      refine vc_ret ?_
      change retQ _ _ _ _ _
      refine retQ_sel [] (srows := []) (.inr rfl) hC rfl rfl rfl rfl rfl rfl rfl ?_
      exact ⟨_, .inl (by omega), rfl, rfl⟩
    · try simp only [decide_eq_true_eq, decide_eq_false_iff_not, beq_iff_eq, bne_iff_ne, beq_eq_false_iff_ne, bne_eq_false_iff_eq, Bool.not_eq_true, Bool.not_eq_false, Bool.not_eq_eq_eq_not, Bool.not_true, Bool.not_false, List.length_map, Int.not_lt, Int.not_le, ne_eq, Decidable.not_not] at hc2
      refine vc_skip ?_
      refine hK7 _ ?_
      refine vc_seq fun K10 hK10 => ?_
      refine vc_region ?_
      refine vo_move_pv rfl rfl ?_
      refine vo_assign_pv rfl rfl ?_
      refine vo_nil ?_
      refine hK10 _ ?_
      refine vc_ret ?_
      change retQ _ _ _ _ _
      refine retQ_sel [] (srows := []) (.inr rfl) hC rfl rfl rfl rfl rfl rfl rfl ?_
      rcases hv with hv | hv
      · omega
      exact ⟨_, .inr ⟨by omega, by omega, by omega, hv.2.2.1, hv.2.2.2⟩, rfl, rfl⟩

end Go.Vl

