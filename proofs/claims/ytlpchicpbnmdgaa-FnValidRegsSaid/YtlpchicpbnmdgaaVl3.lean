/- Part 3 of the texts that the proof of FnValidRegs is built on. -/
import Derived.Test.YtlpchicpbnmdgaaVl2
import Derived.Deep.MidRow
import Derived.Laws.StructEq
import Derived.MapKept
import Derived.Test.YtlpchicpbnmdgaaProg
import Derived.KernelRfl
import Derived.ProofKit
import Derived.OpenShut
import Derived.Below
import Derived.Deep.Matrix
import Derived.ChangeArms
import Derived.ChangeSame
import Derived.Lib.AppendZeros
/- Structs as values: variables of their own, loads and stores of whole ones, their fields, and functions that hand them back. -/
namespace Go.Vl
set_option linter.unusedVariables false
set_option linter.unusedSimpArgs false
open Go.RowKit

/-- A struct's cells, its zero value. -/
structure StZ (P : Program) (S : TypeId) (zs : List PV) : Prop where
  und : ∃ fs, P.underlying S = some (.struct fs)
  inf : ∃ i zc, P.info? S = some i ∧ i.size = zs.length ∧ i.zero = some (.agg zc) ∧ ∀ w G, RP w G (.agg zs) (.agg zc)

/-- The values of a variable's cells. -/
def collectC : List SV → Option (Bool × List PV)
  | [] => some (true, [])
  | .pv f p :: r => match collectC r with
    | some (f', ps) => some ((f || p.scal) && f', p :: ps)
    | none => none
  | _ :: _ => none

theorem collectC_get : ∀ {l : List SV} {f : Bool} {ps : List PV}, collectC l = some (f, ps) → l.length = ps.length ∧ ∀ (j : Nat) (p : PV), ps[j]? = some p → ∃ g, l[j]? = some (.pv g p) ∧ (f = true → (g || p.scal) = true)
  | [], f, ps, h => by simp [collectC] at h; obtain ⟨rfl, rfl⟩ := h; exact ⟨rfl, fun j p hp => by simp at hp⟩
  | .pv g p :: r, f, ps, h => by
    simp only [collectC] at h
    split at h
    · rename_i f' ps' hr
      simp at h
      obtain ⟨rfl, rfl⟩ := h
      obtain ⟨h1, h2⟩ := collectC_get hr
      refine ⟨by simp [h1], fun j q hq => ?_⟩
      cases j with
      | zero => simp at hq; subst hq; exact ⟨g, rfl, fun h => by simp at h; simp [h.1]⟩
      | succ j =>
        obtain ⟨g', h3, h4⟩ := h2 j q (by simpa using hq)
        exact ⟨g', by simpa using h3, fun h => by simp only [Bool.and_eq_true] at h; exact h4 h.2⟩
    · cases h
  | .ref _ :: _, _, _, h => by simp [collectC] at h
  | .ptr _ _ _ _ :: _, _, _, h => by simp [collectC] at h
  | .adr _ _ :: _, _, _, h => by simp [collectC] at h
  | .tup _ :: _, _, _, h => by simp [collectC] at h
  | .und :: _, _, _, h => by simp [collectC] at h
  | .any :: _, _, _, h => by simp [collectC] at h

theorem RP.notAgg {w : World} {G : Nat → Prop} {p : PV} {v : Value} (h : RP w G p v) (h1 : v.oneCell' = true) : p.isAgg = false := by
  cases h <;> first | rfl | simp [Value.oneCell'] at h1

theorem RP.flag {w : World} {G : Bool → Nat → Prop} (hw : ∀ b, G true b → G false b) {g f : Bool} {p : PV} {v : Value} (h : RP w (G g) p v) (hf : f = true → (g || p.scal) = true) : RP w (G f) p v := by
  cases hsc : p.scal with
  | true => exact h.scal_any hsc
  | false =>
    cases f with
    | true => have := hf rfl; rw [hsc] at this; simp at this; subst this; exact h
    | false =>
      cases g with
      | true => exact h.mono fun b hb => ⟨hw b hb, rfl⟩
      | false => exact h

section
variable {P : Program} {C : Ctx} {Q : Go.Exit → St → Prop} {s : St} {ops : Array Oper} {rest : List Oper} {t : Nat} {ty : TypeId} {pos : String} {af : Array Edge}

theorem vo_alloc {S : TypeId} {zs : List PV} (hZ : StZ P S zs) (ht : Nat.blt t s.n = true)
    (next : VO P C ops rest Q ⟨s.n, (t, .ptr s.rows.length 0 0 0) :: s.env, s.rows ++ [.var S (zs.map fun c => .pv true c)]⟩) :
    VO P C ops (⟨some t, .alloc S, ty, pos, af, none⟩ :: rest) Q s := by
  refine vo_value (s1 := { s with rows := s.rows ++ [.var S (zs.map fun c => .pv true c)] }) (sv := .ptr s.rows.length 0 0 0) ht (fun m a w hs => ?_) next
  obtain ⟨_, i, zc, hi, hsz, hz, hr⟩ := hZ
  have hrp := hr w (fun _ => False)
  have hlen : zc.size = zs.length := by cases hrp with | agg _ _ hl => exact hl
  have hadd := hs.addRow (w' := w.alloc (.cells zc S)) (World.grownBy_alloc w _ none) (.var S (zs.map fun c => .pv true c)) (.of <| .pointer (some ⟨w.heap.size, 0, none⟩))
    (fun b hb => by simp [MV.of, blk] at hb; omega) (fun hG => .var w.heap.size S _ zc (heap_alloc_new w _) (by simpa using hlen) (fun j c u hc hu => by
      simp only [List.getElem?_map, Option.map_eq_some_iff] at hc
      obtain ⟨c', hc', rfl⟩ := hc
      have := hr (w.alloc (.cells zc S)) (Gd C (s.rows ++ [.var S (zs.map fun c => .pv true c)]) (updM m s.rows.length (.of <| .pointer (some ⟨w.heap.size, 0, none⟩))) (w.alloc (.cells zc S)) true)
      cases this with
      | agg _ _ _ _ h => exact .pv _ _ _ (h j c' u hc' hu)) (fun j u hu => by
      cases hrp with
      | agg _ _ hl h1 h =>
        have hj : j < zs.length := by rw [← hl]; exact (Array.getElem?_eq_some_iff.1 hu).1
        have hc := List.getElem?_eq_getElem hj
        exact (h j _ u hc hu).oneCell (h1 j _ hc)))
  refine ⟨.pointer (some ⟨w.heap.size, 0, none⟩), _, _, ?_, hadd.1, ?_⟩
  · simp [execOp, Instr.alloc, zeroValue, typeInfo, hi, hz, newVar, newRow, Value.cells]
  · exact .ptr s.rows.length 0 0 0 w.heap.size (by simp) (by rw [updM_same]; rfl)

/-- The cells of a variable, as they lie. -/
theorem SimM.var {m : Nat → MV} {a : Act} {w : World} (h : SimM C s m a w) {x : Operand} {id e i o R : Nat} {cs : List SV} (hx : getO s.env x = .ptr id e i o) (hrow : s.rows[id]? = some (.var R cs)) :
    ∃ (b : Nat) (cur : Array Value), a.eval x = .pointer (some ⟨b, i * e + o, none⟩) ∧ (m id) = .of (.pointer (some ⟨b, 0, none⟩)) ∧ w.heap[b]? = some (.cells cur R (0, 0)) ∧ cur.size = cs.length ∧
      (∀ (j : Nat) (c : SV) (u : Value), cs[j]? = some c → cur[j]? = some u → RS w (Gd C s.rows m w) m s.rows.length c u) ∧ ∀ (j : Nat) (u : Value), cur[j]? = some u → u.oneCell' = true := by
  obtain ⟨b, hv, hb, hid⟩ := h.ptr hx
  have hR := h.rows id _ hrow
  generalize hmv : m id = v at *
  cases hR with
  | var b' t' cs cur hbk hl hr h1 =>
    simp only [MV.of, blk, Option.some.injEq] at hb
    subst hb
    exact ⟨b', cur, hv, rfl, hbk, hl, hr, h1⟩

/-- A struct is read where nobody writes any more. -/
theorem lt_load_adrS {x : Operand} {T n : Nat} {cs : List PV} {f : Bool} {D : TypeDesc} {inf : TypeInfo} (hx : getO s.env x = .adr f cs)
    (hT : P.underlying T = some D) (hD : D.isRow = true) (hinf : P.info? T = some inf) (hsz : inf.size = n) (hle : Nat.ble n cs.length = true) :
    Lt P C s ⟨some t, .load T x, ty, pos, af, none⟩ (.pv f (.agg (cs.take n))) := by
  intro m a w hs
  have hle := Nat.le_of_ble_eq_true hle
  have hv := hs.get x
  rw [hx] at hv
  generalize hav : a.eval x = v at hv
  cases hv with
  | adr _ _ ad fv hsp hg h1 hc hr =>
    have e0 : ad = ⟨ad.block, ad.off, none⟩ := by obtain ⟨b, o, sp⟩ := ad; simp only at hsp; subst hsp; rfl
    have hlen : ((List.range n).map fv).length = n := by simp
    refine ⟨.agg ((List.range n).map fv).toArray, fun w' hw' => ?_, ?_⟩
    · have := run_loadAt_mid (P := P) w' ad.block ad.off T ((List.range n).map fv) D (fun j u hj => ?_) hT hD (by rw [hinf]; simp [hsz])
      · rw [e0] at hav
        simp [execOp, hav, this]
      · have hjn : j < n := by rw [← hlen]; exact (List.getElem?_eq_some_iff.1 hj).1
        simp [hjn] at hj
        subst hj
        exact hw'.cell (hc j _ (List.getElem?_eq_getElem (by omega)))
    · refine .pv _ _ _ (.agg _ _ (by simp; omega) (fun j c hj => ?_) (fun j c u hj hu => ?_))
      · rw [List.getElem?_take] at hj
        split at hj
        · exact h1 j c hj
        · cases hj
      · rw [List.getElem?_take] at hj
        split at hj
        · rename_i hjn
          simp [hjn] at hu
          subst hu
          exact hr j c hj
        · cases hj

theorem vo_load_adrS {x : Operand} {T n : Nat} {cs : List PV} {f : Bool} {D : TypeDesc} {inf : TypeInfo} (ht : Nat.blt t s.n = true) (hx : getO s.env x = .adr f cs)
    (hT : P.underlying T = some D) (hD : D.isRow = true) (hinf : P.info? T = some inf) (hsz : inf.size = n) (hle : Nat.ble n cs.length = true)
    (next : VO P C ops rest Q (s.put t (.pv f (.agg (cs.take n))))) : VO P C ops (⟨some t, .load T x, ty, pos, af, none⟩ :: rest) Q s := vo_pure ht (lt_load_adrS hx hT hD hinf hsz hle) next

/-- A struct is written into a variable. -/
theorem vo_store_varS {x y : Operand} {T id e i o R : Nat} {cs : List SV} {f : Bool} {ps : List PV} {inf : TypeInfo} (hx : getO s.env x = .ptr id e i o) (hrow : s.rows[id]? = some (.var R cs))
    (hy : getO s.env y = .pv f (.agg ps)) (hinf : P.info? T = some inf) (hsz : inf.size = ps.length) (hle : Nat.ble (i * e + o + ps.length) cs.length = true)
    (next : VO P C ops rest Q ⟨s.n, s.env, s.rows.set id (.var R (cs.take (i * e + o) ++ ps.map (fun p => .pv (f || p.scal) p) ++ cs.drop (i * e + o + ps.length)))⟩) :
    VO P C ops (⟨none, .store T x y, ty, pos, af, none⟩ :: rest) Q s := by
  refine vo_unit (s1 := { s with rows := s.rows.set id (.var R (cs.take (i * e + o) ++ ps.map (fun p => .pv (f || p.scal) p) ++ cs.drop (i * e + o + ps.length))) }) (fun m a w hs => ?_) next
  have hle := Nat.le_of_ble_eq_true hle
  obtain ⟨b, cur, hv, hm, hbk, hl, hr, h1⟩ := hs.var hx hrow
  have hvy := hs.get y
  rw [hy] at hvy
  have hvy := hvy.pv_inv
  generalize hav : a.eval y = v at hvy
  cases hvy with
  | agg _ vs hvl h2 h =>
    have hone : ∀ u ∈ vs.toList, u.oneCell' = true := by
      intro u hu
      obtain ⟨j, hj⟩ := List.getElem?_of_mem hu
      have hjl : j < ps.length := by rw [← hvl]; simpa using (List.getElem?_eq_some_iff.1 hj).1
      have hc := List.getElem?_eq_getElem hjl
      exact (h j _ u hc (by simpa using hj)).oneCell (h2 j _ hc)
    have hrun := run_storeCells_at P b (i * e + o) R vs.toList 0 cur w hbk (by simp; omega) hone
    simp only [Nat.add_zero, Array.length_toList, hvl] at hrun
    let cur' := (cur.toList.take (i * e + o) ++ vs.toList ++ cur.toList.drop (i * e + o + ps.length)).toArray
    refine ⟨w.setRow b cur', m, ?_, ?_⟩
    · simp [execOp, Instr.storeAt, hv, hav, Instr.sureAddr, storeVar, sizeOf, typeInfo, hinf, hsz, Value.cells, hvl, hrun, cur']
    · refine hs.storeRow ⟨_, hrow, rfl⟩ (fun b' e => by cases e; rw [hm]; rfl) (grown_setRow w b cur') _ (fun hG => ?_)
      rw [hm]
      have hheap := setRow_heap w b cur cur' R _ hbk
      have hget : ∀ j, cur'[j]? = if j < i * e + o then cur[j]? else if j < i * e + o + ps.length then vs[j - (i * e + o)]? else cur[j]? := by
        intro j
        simp only [cur', List.getElem?_toArray]
        rw [List.getElem?_append, List.getElem?_append]
        simp only [List.length_append, List.length_take, Array.length_toList, hvl]
        have e1 : min (i * e + o) cur.size = i * e + o := by omega
        rw [e1]
        split
        · split
          · rw [List.getElem?_take, if_pos (by assumption)]; simp
          · simp
        · rw [List.getElem?_drop, show i * e + o + ps.length + (j - (i * e + o + ps.length)) = j by omega]; simp
      have hget2 : ∀ j, (cs.take (i * e + o) ++ ps.map (fun p => SV.pv (f || p.scal) p) ++ cs.drop (i * e + o + ps.length))[j]? = if j < i * e + o then cs[j]? else if j < i * e + o + ps.length then (ps.map (fun p => SV.pv (f || p.scal) p))[j - (i * e + o)]? else cs[j]? := by
        intro j
        rw [List.getElem?_append, List.getElem?_append]
        simp only [List.length_append, List.length_take, List.length_map]
        have e1 : min (i * e + o) cs.length = i * e + o := by omega
        rw [e1]
        split
        · split
          · rw [List.getElem?_take, if_pos (by assumption)]
          · rfl
        · rw [if_neg (by omega), List.getElem?_drop, show i * e + o + ps.length + (j - (i * e + o + ps.length)) = j by omega]
      refine .var b R _ cur' hheap (by simp [cur']; omega) (fun j c u hc hu => ?_) (fun j u hu => ?_)
      · rw [hget2] at hc
        rw [hget] at hu
        split at hc
        · rename_i h3; rw [if_pos h3] at hu; exact (hr j c u hc hu).mono hG (Nat.le_refl _) (fun _ _ => rfl)
        · rename_i h3
          rw [if_neg h3] at hu
          split at hc
          · rename_i h4
            rw [if_pos h4] at hu
            simp only [List.getElem?_map, Option.map_eq_some_iff] at hc
            obtain ⟨c', hc', rfl⟩ := hc
            have hp := h _ c' u hc' hu
            cases hsc : c'.scal with
            | true => simp only [Bool.or_true]; exact .pv _ _ _ (hp.scal_any hsc)
            | false => simp only [Bool.or_false]; exact .pv _ _ _ (hp.mono (hG f))
          · rename_i h4; rw [if_neg h4] at hu; exact (hr j c u hc hu).mono hG (Nat.le_refl _) (fun _ _ => rfl)
      · rw [hget] at hu
        split at hu
        · exact h1 j u hu
        · split at hu
          · exact hone u (by rw [Array.mem_toList_iff]; exact Array.mem_of_getElem? hu)
          · exact h1 j u hu
end
end Go.Vl

/- Functions that hand back structs: the way in, and what is handed back. -/
namespace Go.Vl
set_option linter.unusedVariables false
set_option linter.unusedSimpArgs false
open Go.RowKit

/-- What a result holds at a function's end. -/
def resSV (s : St) : Nat × Option (Nat × Nat) → SV
  | (t, none) => look s.env t
  | (a, some _) => match look s.env a with
    | .ptr id 0 0 0 => match s.rows[id]? with
      | some (.var _ cs) => match collectC cs with
        | some (f, ps) => .pv f (.agg ps)
        | none => .any
      | _ => .any
    | _ => .any

def resVar : Nat × Option (Nat × Nat) → ResultVar
  | (t, none) => .tmp t
  | (a, some (T, _)) => .cell a T

/-- Is the result there? -/
def resOK (s : St) : Nat × Option (Nat × Nat) → Bool
  | (_, none) => true
  | (a, some (_, n)) => match look s.env a with
    | .ptr id 0 0 0 => match s.rows[id]? with
      | some (.var _ cs) => Nat.beq cs.length n && (collectC cs).isSome
      | _ => false
    | _ => false

/-- The types of the results that lie in memory. -/
def resT (P : Program) : Nat × Option (Nat × Nat) → Prop
  | (_, none) => True
  | (_, some (T, n)) => ∃ D inf, P.underlying T = some D ∧ D.isRow = true ∧ P.info? T = some inf ∧ inf.size = n

def resM (tmps : Array Value) : ResultVar → Sem Value
  | .tmp t => pure (tmps.getD t undef)
  | .cell a t => do loadVar t (← asAddr (tmps.getD a undef))

theorem results_eq (fn : Func) (tmps : Array Value) : results fn tmps = (do
  let vs ← fn.results.mapM (resM tmps)
  pure (if h : vs.size = 1 then vs[0] else .tuple vs)) := by
  unfold results
  congr 1

theorem ElInfo.of_struct {P : Program} {T el by' : Nat} {zs : List PV} (hT : P.underlying T = some (.slice el)) (hZ : StZ P el zs) (hb : ∀ i, P.info? el = some i → i.bytes = by') (h0 : zs ≠ []) : ElInfo P T el zs.length by' (.agg zs) := by
  obtain ⟨_, i, zc, hi, hs, hz, hr⟩ := hZ
  have h := hr default (fun _ => False)
  cases h with
  | agg _ _ hl h1 h =>
    exact ⟨hT, ⟨i, .agg zc, hi, hs, hb i hi, hz, hl, hr⟩, ⟨rfl, h1⟩, List.length_pos_iff.2 h0⟩

section
variable {P : Program}

theorem resTs1 {r1 : Nat × Option (Nat × Nat)} (h1 : resT P r1) : ∀ r ∈ [r1], resT P r := by simp [h1]
theorem resTs2 {r1 r2 : Nat × Option (Nat × Nat)} (h1 : resT P r1) (h2 : resT P r2) : ∀ r ∈ [r1, r2], resT P r := by simp [h1, h2]
/-- What is handed back at such a function's end: values alone; no new rows. -/
def retS (rs : List (Nat × Option (Nat × Nat))) (k : Nat) (R : List SV → List Row → Prop) (e : Go.Exit) (s : St) : Prop :=
  (e = .normal ∨ e = .ret) ∧ (k ≤ s.rows.length ∧ (rs.map (resSV s)).all (SV.bdd k) = true ∧ (s.rows.take k).all (Row.bdd k) = true ∧ rs.all (resOK s) = true) ∧ R (rs.map (resSV s)) (s.rows.take k)

end
end Go.Vl

/- Rows whose slices are their own: made, written, lent in part. -/
namespace Go.Vl
set_option linter.unusedVariables false
set_option linter.unusedSimpArgs false
open Go.RowKit

/-- No slice but the nil one. -/
def plainB : PV → Bool
  | .sl (some true) _ [] => true
  | p => p.scal

def plainX (xs : List PV) : Prop := ∀ x ∈ xs, ∀ c ∈ x.cells, plainB c = true
theorem oneCell_cells {u : Value} (h : u.oneCell' = true) : u.cells.toList = [u] := by
  cases u <;> simp_all [Value.cells, Value.oneCell']

section
variable {P : Program} {C : Ctx} {Q : Go.Exit → St → Prop} {s : St} {ops : Array Oper} {rest : List Oper} {t : Nat} {ty : TypeId} {pos : String} {af : Array Edge}

end
end Go.Vl

/- A part of a row whose slices are its own is lent to a function, which may write it. -/
namespace Go.Vl
set_option linter.unusedVariables false
set_option linter.unusedSimpArgs false
open Go.RowKit

section
variable {P : Program} {C : Ctx} {Q : Go.Exit → St → Prop} {s : St} {ops : Array Oper} {rest : List Oper} {t : Nat} {ty : TypeId} {pos : String} {af : Array Edge}

def SV.isScal : SV → Bool
  | .pv _ p => p.scal
  | _ => false

end
end Go.Vl
namespace Go.Vl
theorem TP.weak {w : World} {nl : Option Bool} {e : Nat} {xs : List PV} {v : Value} {S : Nat → Prop} (h : TP w (.sl nl e xs) v S) : TP w (.sl none e xs) v S := by
  cases h with
  | scal _ _ _ hsc => simp [PV.scal] at hsc
  | sl t e nl xs v vals Sf S hown h1 h2 hw hr hd hn hz hS => exact .sl t e none xs v vals Sf S hown (fun h => by cases h) (fun h => by cases h) hw hr hd hn hz hS

/-- Numbers that go up one by one. -/
def markL (k : Int) (n : Nat) : List Int := (List.range n).map (fun (j : Nat) => k + (j : Int))
end Go.Vl

/- 'copy' of a whole slice; a slice held against nil; ghost steps on slots. -/
namespace Go.Vl
set_option linter.unusedVariables false
set_option linter.unusedSimpArgs false
open Go.RowKit

section
variable {P : Program} {C : Ctx} {Q : Go.Exit → St → Prop} {s : St} {ops : Array Oper} {rest : List Oper} {t : Nat} {ty : TypeId} {pos : String} {af : Array Edge}

end
end Go.Vl

/- Classes above a class, and below it. -/
namespace Go.Vl
set_option linter.unusedVariables false
set_option linter.unusedSimpArgs false

/-- Steps lead from a class to another one. -/
inductive Abv (b : List (List Int)) : Nat → Nat → Prop
  | refl (c : Nat) : Abv b c c
  | step {c d x : Nat} (h : (d : Int) ∈ b.getD c []) (h2 : Abv b d x) : Abv b c x

theorem Abv.trans {b : List (List Int)} {c d x : Nat} (h : Abv b c d) (h2 : Abv b d x) : Abv b c x := by
  induction h with
  | refl c => exact h2
  | step h _ ih => exact .step h (ih h2)

def mkB (l : List Int) (m : List Bool) : List Bool := l.foldl (fun m x => m.set x.toNat true) m
def stB (b : List (List Int)) (i : Nat) (m : List Bool) : List Bool := if m.getD i false = true then mkB (b.getD i []) m else m
def goB (b : List (List Int)) : Nat → List Bool → List Bool
  | 0, m => m
  | i+1, m => goB b i (stB b (i+1) m)
/-- The same with the root, whose step is none. -/
def goC (b : List (List Int)) : Nat → List Bool → List Bool
  | 0, m => m
  | i+1, m => goC b i (stB b i m)
def abvB (b : List (List Int)) (c : Nat) : List Bool := goB b c ((List.replicate b.length false).set c true)
def idxT (m : List Bool) (k : Nat) : List Int := ((List.range k).filter (fun i => m.getD i false)).map (fun (i : Nat) => (i : Int))
def idxB (m : List Bool) : List Int := idxT m m.length
def abvL (b : List (List Int)) (c : Nat) : List Int := idxB (abvB b c)

/-- The marks of all classes below a class. -/
def belB (b : List (List Int)) (c : Nat) : List Bool := (List.range b.length).map (fun i => decide ((c : Int) ∈ abvL b i))
def belL (b : List (List Int)) (c : Nat) : List Int := idxB (belB b c)
end Go.Vl

/- Lists that keep others; merges of lists. -/
namespace Go.Vl
set_option linter.unusedVariables false
set_option linter.unusedSimpArgs false

/-- How far the second list is met along the first one, from a place on. -/
def kpN (short : List Int) : List Int → Nat → Nat
  | [], a => a
  | x :: l, a => kpN short l (if a < short.length ∧ short.getD a 0 = x then a + 1 else a)

/-- What KeepsOrder says. -/
def KO (long short : List Int) : Prop := OKL' long ∧ OKL' short ∧ short.Sublist long
  where OKL' (l : List Int) : Prop := (l.length : Int) ≤ 12 ∧ l.Nodup
end Go.Vl

/- Merges of lists. -/
namespace Go.Vl
set_option linter.unusedVariables false
set_option linter.unusedSimpArgs false

def fM (n : Int) : List Int → Int → Int
  | [], _ => -1
  | x :: xs, i => if x = n then i else fM n xs (i+1)

/-- Behind the first place. -/
def bhd (x : Int) (l : List Int) : Prop := 0 < fM x l 0
instance {x : Int} {l : List Int} : Decidable (bhd x l) := by unfold bhd; infer_instance
def anyB (ls : List (List Int)) (x : Int) : Prop := ∃ l ∈ ls, bhd x l
instance {ls : List (List Int)} {x : Int} : Decidable (anyB ls x) := by unfold anyB; infer_instance

def freeH (all : List (List Int)) (l : List Int) : Option Int := if 0 < l.length ∧ ¬ anyB all (l.getD 0 0) then some (l.getD 0 0) else none
def fhF (all : List (List Int)) : List (List Int) → Option Int
  | [] => none
  | l :: r => match freeH all l with
    | some x => some x
    | none => fhF all r
def fhM (ls : List (List Int)) : Option Int := fhF ls ls
/-- A list without a number at its head. -/
def tk (x : Int) (l : List Int) : List Int := if 0 < l.length ∧ l.getD 0 0 = x then l.drop 1 else l
def tot (ls : List (List Int)) : Nat := (ls.map List.length).sum
def mergeF : Nat → List (List Int) → List Int × List (List Int)
  | 0, ls => ([], ls)
  | n+1, ls => match fhM ls with
    | none => ([], ls)
    | some x => (x :: (mergeF n (ls.map (tk x))).1, (mergeF n (ls.map (tk x))).2)
def mergeM (ls : List (List Int)) : List Int × List (List Int) := mergeF (tot ls) ls
/-- Each once, where it stands first. -/
def onceF : List Int → List Int → List Int
  | acc, [] => acc
  | acc, x :: l => onceF (if x ∈ acc then acc else acc ++ [x]) l
/-- The first numbers of lists. -/
def hd1 (l : List Int) : List Int := l.take 1
def hds (ls : List (List Int)) : List Int := ls.flatMap hd1
end Go.Vl

/- A call that makes rows, in a statement whose order of evaluation is open. -/
namespace Go.Vl
set_option linter.unusedVariables false
set_option linter.unusedSimpArgs false
open Go.RowKit

section
variable {P : Program} {C : Ctx} {ops : Array Oper} {K : St → Prop} {s : St} {n : Nat} {listed : Array Bool}

end
end Go.Vl

/- More ghost steps: a row forgets that what it holds is new. -/
namespace Go.Vl
set_option linter.unusedVariables false
set_option linter.unusedSimpArgs false
open Go.RowKit

section
variable {P : Program} {C : Ctx} {Q : Go.Exit → St → Prop} {s : St}
end
end Go.Vl

/- Nil slices of the call's own that are known to be nil; a slice held to differ from nil. -/
namespace Go.Vl
set_option linter.unusedVariables false
set_option linter.unusedSimpArgs false
open Go.RowKit

section
variable {P : Program} {C : Ctx} {Q : Go.Exit → St → Prop} {s : St} {ops : Array Oper} {rest : List Oper} {t : Nat} {ty : TypeId} {pos : String} {af : Array Edge}

end
end Go.Vl

/- A slice is taken out of a row whose slices are its own: it becomes a row. -/
namespace Go.Vl
set_option linter.unusedVariables false
set_option linter.unusedSimpArgs false
open Go.RowKit

section
variable {P : Program} {C : Ctx} {Q : Go.Exit → St → Prop} {s : St} {ops : Array Oper} {rest : List Oper} {t : Nat} {ty : TypeId} {pos : String} {af : Array Edge}

end
end Go.Vl

/- A row of the call's own held to differ from nil. -/
namespace Go.Vl
set_option linter.unusedVariables false
set_option linter.unusedSimpArgs false
open Go.RowKit

section
variable {P : Program} {C : Ctx} {Q : Go.Exit → St → Prop} {s : St} {ops : Array Oper} {rest : List Oper} {t : Nat} {ty : TypeId} {pos : String} {af : Array Edge}

end
end Go.Vl

/- A slice of a row whose slices are its own held against nil. -/
namespace Go.Vl
set_option linter.unusedVariables false
set_option linter.unusedSimpArgs false
open Go.RowKit

section
variable {P : Program} {C : Ctx} {Q : Go.Exit → St → Prop} {s : St} {ops : Array Oper} {rest : List Oper} {t : Nat} {ty : TypeId} {pos : String} {af : Array Edge}

end
end Go.Vl

/- Ghost steps in a statement whose order is open. -/
namespace Go.Vl
set_option linter.unusedVariables false
set_option linter.unusedSimpArgs false
open Go.RowKit
end Go.Vl

/- Statements whose order of evaluation is open, with operations that write: these come when nothing else can. -/
namespace Go.Vl
set_option linter.unusedVariables false
set_option linter.unusedSimpArgs false
open Go.RowKit

section
variable {P : Program} {ops : Array Oper} {Q : Go.Exit → Act → World → Prop}

/-- Whatever order is picked; each step leaves all that was there as it was, or is one of those that come late. -/
def anyL (late : List Nat) (P : Program) (ops : Array Oper) (Q : Go.Exit → Act → World → Prop) : Nat → Array Bool → Act → World → Prop
  | 0, listed, a, w => Region.ready .any ops listed = [] ∧ Q .normal a w
  | n + 1, listed, a, w => (Region.ready .any ops listed = [] → Q .normal a w) ∧
      ∀ i ∈ Region.ready .any ops listed, wpOp P ops Q i (fun a' w' => (ExtW w w' ∨ late.contains i = true) ∧ anyL late P ops Q n (listed.setIfInBounds i true) a' w') a w

theorem any_of_anyL {late : List Nat} : ∀ (n : Nat) (listed : Array Bool) (a : Act) (w : World), anyL late P ops Q n listed a w → wpAny P .any ops Q n listed a w
  | 0, _, _, _, h => h
  | n + 1, _, _, _, h => ⟨h.1, fun i hi => wpOp_mono (fun a' w' h' => any_of_anyL n _ a' w' h'.2) (h.2 i hi)⟩

/-- Without i no late operation can come: M has all that can. -/
def closedB (ops : Array Oper) (late M : List Nat) (i : Nat) : Bool :=
  (List.range ops.size).all fun j => j == i || match ops[j]? with
    | some oj => (oj.after.any fun e => Region.binds .any e && !M.contains e.on) || (M.contains j && !late.contains j)
    | none => true
def subB (listed : Array Bool) (M : List Nat) : Bool := (List.range listed.size).all fun k => !listed.getD k false || M.contains k

end

def VL (late : List Nat) (P : Program) (C : Ctx) (ops : Array Oper) (n : Nat) (listed : Array Bool) (K : St → Prop) (s : St) : Prop := ∀ m a w, SimM C s m a w → anyL late P ops (post0 C K) n listed a w

section
variable {late : List Nat} {P : Program} {C : Ctx} {ops : Array Oper} {K : St → Prop} {s : St} {n : Nat} {listed : Array Bool}

theorem vc_drawL (late : List Nat) {id : Nat} {Q : Go.Exit → St → Prop} (hd : Region.departs ops = false) (h : VL late P C ops ops.size (Array.replicate ops.size false) (Q .normal) s) : VC P C (.region id ops true) Q s := by
  intro a w ⟨m, hs⟩
  refine wp_region_draw fun t => ?_
  simp only [Region.schedule, hd, Bool.not_false, Bool.or_true, if_true]
  refine wpOps_monoQ (Q := post0 C (Q .normal)) ?_ _ _ _ (wpAny_sound ops.size t _ a _ (any_of_anyL _ _ _ _ (h m a _ (hs.grow (w' := { w with drawn := w.drawn + 1 }) (ExtW.refl w) rfl rfl rfl))))
  rintro e a' w' ⟨rfl, s', hs', hk⟩
  exact ⟨s', hs', hk⟩

theorem vl_nil (hr : Region.ready .any ops listed = []) (h : K s) : VL late P C ops n listed K s := by
  intro m a w hs
  have hq : post0 C K .normal a w := ⟨rfl, s, ⟨m, hs⟩, h⟩
  cases n with
  | zero => exact ⟨hr, hq⟩
  | succ n => exact ⟨fun _ => hq, by rw [hr]; simp⟩

theorem wp_mono2 {Q Q' : Go.Exit → Act → World → Prop} {K K' : Act → World → Prop} (hq : ∀ e a w, e ≠ .normal → Q e a w → Q' e a w) (hk : ∀ a w, K a w → K' a w) {o : Oper} {a : Act} {w : World} (h : o.wp P a w K Q) : o.wp P a w K' Q' := by
  unfold Oper.wp at *
  generalize (execOp a.eval o).run P w = r at *
  cases r with
  | ok x w' =>
    cases x with
    | value u => exact hk _ _ h
    | skip => exact hk _ _ h
    | defer d => exact hk _ _ h
    | enter f args =>
      simp only [Oper.upon] at h ⊢
      refine h.mono fun e w'' he => ?_
      cases e with
      | returned u => exact hk _ _ he
      | panicked c => exact hq _ _ _ (by simp) he
      | outgrown => obtain ⟨a3, w3, h3⟩ := he; exact ⟨a3, w3, hq _ _ _ (by simp) h3⟩
    | row row args => exact Rows.mono h fun u w'' he => hk _ _ he
    | _ => exact h
  | halt x w' =>
    cases x with
    | panic v => exact hq _ _ _ (by simp) h
    | _ => exact h

/-- An operation when nothing else can come. -/
theorem vl_one (i : Nat) {o : Oper} (hi : ops[i]? = some o) (hr : Region.ready .any ops listed = [i]) (hlate : late.contains i = true)
    (h : VO P C ops [o] (fun e s' => e = .normal ∧ VL late P C ops n (listed.setIfInBounds i true) K s') s) : VL late P C ops (n + 1) listed K s := by
  intro m a w hs
  refine ⟨fun h0 => (by rw [hr] at h0; cases h0), fun j hj => ?_⟩
  rw [hr] at hj
  simp at hj
  subst hj
  have h1 := h a w ⟨m, hs⟩
  have hfin : ∀ a' w', wpList P ops (post C (fun e s' => e = .normal ∧ VL late P C ops n (listed.setIfInBounds j true) K s')) [] a' w' → (ExtW w w' ∨ late.contains j = true) ∧ anyL late P ops (post0 C K) n (listed.setIfInBounds j true) a' w' := by
    rintro a' w' ⟨s', ⟨m', hs'⟩, _, h2⟩
    exact ⟨.inr hlate, h2 m' a' w' hs'⟩
  have hpost : ∀ e a' w', e ≠ .normal → post C (fun e s' => e = .normal ∧ VL late P C ops n (listed.setIfInBounds j true) K s') e a' w' → post0 C K e a' w' := by
    rintro e a' w' hne ⟨s', _, h2, _⟩
    exact absurd h2 hne
  unfold wpOp
  simp only [hi]
  unfold wpList at h1
  by_cases hw : Region.wanted o (yielded ops a.tmps) = true
  · rw [if_pos hw] at h1 ⊢
    rcases h1 with h1 | ⟨h1, a2, w2, h2⟩
    · exact .inl (wp_mono2 hpost hfin h1)
    · exact .inr ⟨h1, a2, w2, hpost _ _ _ (by simp) h2⟩
  · rw [if_neg hw] at h1 ⊢
    exact hfin _ _ h1

theorem vo_done {Q : Go.Exit → St → Prop} (h : Q .normal s) : VO P C ops [] Q s := vo_nil h
end
end Go.Vl

/- '==' on structs of two numbers. -/
namespace Go.Vl
set_option linter.unusedVariables false
set_option linter.unusedSimpArgs false
open Go.RowKit

/-- Structs of two numbers are compared number by number. -/
def EqI2 (P : Program) (T : TypeId) : Prop :=
  (∀ (x y x' y' : Int) (w : World), (Op.equalIn 10000 T (.agg #[.int .i64 x, .int .i64 y]) (.agg #[.int .i64 x', .int .i64 y'])).run P w = .ok (x == x' && y == y') w) ∧ P.eqGuardType P.depth T = false

section
variable {P : Program} {C : Ctx} {Q : Go.Exit → St → Prop} {s : St} {ops : Array Oper} {rest : List Oper} {t : Nat} {ty : TypeId} {pos : String} {af : Array Edge}

end
end Go.Vl

/- Operations that make new memory, in a statement whose order of evaluation is open. -/
namespace Go.Vl
set_option linter.unusedVariables false
set_option linter.unusedSimpArgs false
open Go.RowKit

/-- The operation hands back a value, and all that was there is there as it was. -/
def Xt (P : Program) (C : Ctx) (s : St) (o : Oper) (s1 : St) (sv : SV) : Prop :=
  ∀ m a w, SimM C s m a w → ∃ v w' m', (execOp a.eval o).run P w = .ok (.value v) w' ∧ SimM C s1 m' a w' ∧ RS w' (Gd C s1.rows m' w') m' s1.rows.length sv v ∧ ExtW w w'

section
variable {late : List Nat} {P : Program} {C : Ctx} {ops : Array Oper} {K : St → Prop} {s s1 : St} {n : Nat} {listed : Array Bool}

end
section
variable {P : Program} {C : Ctx} {s : St} {t : Nat} {ty : TypeId} {pos : String} {af : Array Edge}

end
end Go.Vl

/- Side conditions and plain states, by a tactic that the rule itself carries. -/
namespace Go.Vl
set_option linter.unusedVariables false
set_option linter.unusedSimpArgs false
open Go.RowKit

/-- A side condition. -/
theorem sd {p : Prop} (h : p := by first | omega | (simp only [List.length_map] <;> omega) | (simp only [List.length_map, List.length_set, List.length_append, List.length_cons, List.length_nil, List.length_replicate, List.length_take, List.length_drop] <;> omega) | (simp <;> omega) | (constructor <;> (first | omega | (simp <;> omega))) | (refine ⟨?_, ?_, ?_, ?_⟩ <;> omega) | exact ⟨xorI_nonneg _ _, by omega⟩ | decide) : p := h

section
variable {late : List Nat} {P : Program} {C : Ctx} {Q : Go.Exit → St → Prop} {K : St → Prop} {s s' : St} {ops : Array Oper} {n : Nat} {listed : Array Bool}
theorem vo_stN {l : List Oper} (next : VO P C ops l Q s') (h : s = s' := by (try simp only [St.put, exposeE, killE, SV.expose, SV.kill, Row.expose, Row.kill, rowsAfter_nil, rowsAfter_one, packS, SV.shift, placeOf, enumE, List.zip_cons_cons, List.zip_nil_right, List.map_cons, List.map_nil, List.set_cons_zero, List.set_cons_succ, List.length_cons, List.length_nil, List.cons_append, List.nil_append, List.drop_succ_cons, List.drop_zero, List.drop_nil, List.take_succ_cons, List.take_zero, List.take_nil, List.getElem?_cons_zero, List.getElem?_cons_succ, List.getElem?_nil, Option.getD_some, Option.getD_none, Option.map_some, Option.map_none, Nat.reduceAdd, Nat.reduceSub, Nat.reduceEqDiff, Nat.zero_add, Bool.true_or, PV.scal, Bool.or_false, Bool.or_true, Bool.false_or, Bool.and_true, Bool.and_false, Bool.true_and, reduceIte, reduceCtorEq]); exact eq_refl _) : VO P C ops l Q s := vo_st h next
theorem vc_stN {code : Code} (next : VC P C code Q s') (h : s = s' := by (try simp only [St.put, exposeE, killE, SV.expose, SV.kill, Row.expose, Row.kill, rowsAfter_nil, rowsAfter_one, packS, SV.shift, placeOf, enumE, List.zip_cons_cons, List.zip_nil_right, List.map_cons, List.map_nil, List.set_cons_zero, List.set_cons_succ, List.length_cons, List.length_nil, List.cons_append, List.nil_append, List.drop_succ_cons, List.drop_zero, List.drop_nil, List.take_succ_cons, List.take_zero, List.take_nil, List.getElem?_cons_zero, List.getElem?_cons_succ, List.getElem?_nil, Option.getD_some, Option.getD_none, Option.map_some, Option.map_none, Nat.reduceAdd, Nat.reduceSub, Nat.reduceEqDiff, Nat.zero_add, Bool.true_or, PV.scal, Bool.or_false, Bool.or_true, Bool.false_or, Bool.and_true, Bool.and_false, Bool.true_and, reduceIte, reduceCtorEq]); exact eq_refl _) : VC P C code Q s := vc_st h next
end
end Go.Vl

/- A call whose function's code is gone through in its place: the caller's slots wait in a row of their own. -/
namespace Go.Vl
set_option linter.unusedVariables false
set_option linter.unusedSimpArgs false
open Go.RowKit

/-- What a result holds at a function's end. -/
def resG (s : St) : Nat × Option (Nat × Nat) → SV
  | (t, none) => look s.env t
  | (a, some _) => match look s.env a with
    | .ptr id 0 0 0 => match s.rows[id]? with
      | some (.var _ cs) => match collectC cs with
        | some (f, ps) => .pv f (.agg ps)
        | none => .ag cs
      | _ => .any
    | _ => .any

/-- Is the result there? -/
def resGOK (s : St) : Nat × Option (Nat × Nat) → Bool
  | (_, none) => true
  | (a, some (_, n)) => match look s.env a with
    | .ptr id 0 0 0 => match s.rows[id]? with
      | some (.var _ cs) => Nat.beq cs.length n
      | _ => false
    | _ => false

def inQ (us : List Value) (i : Nat) (L : List Nat) (rs : List (Nat × Option (Nat × Nat))) (n t : Nat) (K : St → Prop) (e : Go.Exit) (s' : St) : Prop :=
  (e = .normal ∨ e = .ret) ∧ ∃ cs', s'.rows[i]? = some (.gh us cs') ∧ rs.all (resGOK s') = true ∧ K ⟨n, (t, packS (rs.map (resG s'))) :: L.zip cs', s'.rows.set i .dead⟩

section
variable {P : Program} {C : Ctx} {Q : Go.Exit → St → Prop} {s : St}

theorem run_resG1 {m : Nat → MV} {a : Act} {w : World} (h : SimM C s m a w) {r : Nat × Option (Nat × Nat)} (hT : resT P r) (hok : resGOK s r = true) :
    ∃ v, (resM a.tmps (resVar r)).run P w = .ok v w ∧ RS w (Gd C s.rows m w) m s.rows.length (resG s r) v := by
  obtain ⟨t, _ | ⟨T, n⟩⟩ := r
  · exact ⟨_, rfl, h.env t⟩
  · obtain ⟨D, inf, hu, hD, hinf, hsz⟩ := hT
    simp only [resGOK] at hok
    split at hok
    · rename_i id hid
      split at hok
      · rename_i R cs hrow
        have hl := Nat.eq_of_beq_eq_true hok
        have hg : getO s.env (.tmp t) = .ptr id 0 0 0 := hid
        obtain ⟨b, cur, hv, _, hbk, hcl, hr, h1⟩ := h.var hg hrow
        have hv2 : a.tmps.getD t undef = .pointer (some ⟨b, 0, none⟩) := hv
        refine ⟨.agg cur, ?_, ?_⟩
        · have e := run_loadAt_mid (P := P) w b 0 T cur.toList D (fun j v hj => by
            rw [cell_of_row w b _ cur R (0, 0) hbk]; simpa using hj) hu hD (by rw [hinf]; simp [hsz, hcl, hl])
          simp only [resVar, resM, hv2]
          simpa [Instr.loadAt, Instr.sureAddr, asAddr] using e
        · simp only [resG, hid, hrow]
          split
          · rename_i f ps hcc
            obtain ⟨c1, c2⟩ := collectC_get hcc
            refine .pv _ _ _ (.agg ps cur (by rw [hcl, c1]) (fun j p hp => ?_) (fun j p u hp hu => ?_))
            · obtain ⟨g, h3, _⟩ := c2 j p hp
              have hlt : j < cur.size := by rw [hcl]; exact (List.getElem?_eq_some_iff.1 h3).1
              have hu := Array.getElem?_eq_getElem hlt
              exact (hr _ _ _ h3 hu).pv_inv.notAgg (h1 _ _ hu)
            · obtain ⟨g, h3, h4⟩ := c2 j p hp
              exact RP.flag (G := Gd C s.rows m w) (fun b hb => hb.weak) (hr _ _ _ h3 hu).pv_inv h4
          · exact .ag cs cur hcl hr h1
      · cases hok
    · cases hok

theorem run_resGA {m : Nat → MV} {a : Act} {w : World} (h : SimM C s m a w) {fn : Func} {rs : List (Nat × Option (Nat × Nat))} (hr : fn.results = (rs.map resVar).toArray) (hl : rs.length ≤ 5)
    (hT : ∀ r ∈ rs, resT P r) (hok : rs.all (resGOK s) = true) :
    ∃ us : Array Value, (results fn a.tmps).run P w = .ok (pack us) w ∧ us.size = rs.length ∧ ∀ (j : Nat) (r : Nat × Option (Nat × Nat)), rs[j]? = some r → RS w (Gd C s.rows m w) m s.rows.length (resG s r) (us.getD j undef) := by
  rw [results_eq, hr]
  rw [List.all_eq_true] at hok
  match rs, hl with
  | [], _ => exact ⟨#[], by simp [pack], rfl, fun j r hr => by simp at hr⟩
  | [r1], _ =>
    obtain ⟨v1, h1, k1⟩ := run_resG1 (P := P) h (hT r1 (by simp)) (hok r1 (by simp))
    refine ⟨#[v1], by simp [h1, pack], rfl, fun j r hr => ?_⟩
    match j, hr with
    | 0, hr => cases hr; exact k1
  | [r1, r2], _ =>
    obtain ⟨v1, h1, k1⟩ := run_resG1 (P := P) h (hT r1 (by simp)) (hok r1 (by simp))
    obtain ⟨v2, h2, k2⟩ := run_resG1 (P := P) h (hT r2 (by simp)) (hok r2 (by simp))
    refine ⟨#[v1, v2], by simp [h1, h2, pack], rfl, fun j r hr => ?_⟩
    match j, hr with
    | 0, hr => cases hr; exact k1
    | 1, hr => cases hr; exact k2
  | [r1, r2, r3], _ =>
    obtain ⟨v1, h1, k1⟩ := run_resG1 (P := P) h (hT r1 (by simp)) (hok r1 (by simp))
    obtain ⟨v2, h2, k2⟩ := run_resG1 (P := P) h (hT r2 (by simp)) (hok r2 (by simp))
    obtain ⟨v3, h3, k3⟩ := run_resG1 (P := P) h (hT r3 (by simp)) (hok r3 (by simp))
    refine ⟨#[v1, v2, v3], by simp [h1, h2, h3, pack], rfl, fun j r hr => ?_⟩
    match j, hr with
    | 0, hr => cases hr; exact k1
    | 1, hr => cases hr; exact k2
    | 2, hr => cases hr; exact k3
  | [r1, r2, r3, r4], _ =>
    obtain ⟨v1, h1, k1⟩ := run_resG1 (P := P) h (hT r1 (by simp)) (hok r1 (by simp))
    obtain ⟨v2, h2, k2⟩ := run_resG1 (P := P) h (hT r2 (by simp)) (hok r2 (by simp))
    obtain ⟨v3, h3, k3⟩ := run_resG1 (P := P) h (hT r3 (by simp)) (hok r3 (by simp))
    obtain ⟨v4, h4, k4⟩ := run_resG1 (P := P) h (hT r4 (by simp)) (hok r4 (by simp))
    refine ⟨#[v1, v2, v3, v4], by simp [h1, h2, h3, h4, pack], rfl, fun j r hr => ?_⟩
    match j, hr with
    | 0, hr => cases hr; exact k1
    | 1, hr => cases hr; exact k2
    | 2, hr => cases hr; exact k3
    | 3, hr => cases hr; exact k4
  | [r1, r2, r3, r4, r5], _ =>
    obtain ⟨v1, h1, k1⟩ := run_resG1 (P := P) h (hT r1 (by simp)) (hok r1 (by simp))
    obtain ⟨v2, h2, k2⟩ := run_resG1 (P := P) h (hT r2 (by simp)) (hok r2 (by simp))
    obtain ⟨v3, h3, k3⟩ := run_resG1 (P := P) h (hT r3 (by simp)) (hok r3 (by simp))
    obtain ⟨v4, h4, k4⟩ := run_resG1 (P := P) h (hT r4 (by simp)) (hok r4 (by simp))
    obtain ⟨v5, h5, k5⟩ := run_resG1 (P := P) h (hT r5 (by simp)) (hok r5 (by simp))
    refine ⟨#[v1, v2, v3, v4, v5], by simp [h1, h2, h3, h4, h5, pack], rfl, fun j r hr => ?_⟩
    match j, hr with
    | 0, hr => cases hr; exact k1
    | 1, hr => cases hr; exact k2
    | 2, hr => cases hr; exact k3
    | 3, hr => cases hr; exact k4
    | 4, hr => cases hr; exact k5

end
end Go.Vl

/- '!=' on structs of two numbers. -/
namespace Go.Vl
set_option linter.unusedVariables false
set_option linter.unusedSimpArgs false
open Go.RowKit

section
variable {P : Program} {C : Ctx} {Q : Go.Exit → St → Prop} {s : St} {ops : Array Oper} {rest : List Oper} {t : Nat} {ty : TypeId} {pos : String} {af : Array Edge}

end
section
variable {P : Program}
end
end Go.Vl

/- What yields the same in every world may be taken first, whatever else comes. -/
namespace Go.Vl
set_option linter.unusedVariables false
set_option linter.unusedSimpArgs false
open Go.RowKit

section
variable {P : Program} {ops : Array Oper} {Q : Go.Exit → Act → World → Prop}

def yields0 (P : Program) (ops : Array Oper) (o : Oper) (v : Value) (a : Act) : Prop :=
  (Region.wanted o (yielded ops a.tmps) = true ∧ ∀ w, (execOp a.eval o).run P w = .ok (.value v) w) ∨ (Region.wanted o (yielded ops a.tmps) = false ∧ v = undef)

theorem yields0.step {o : Oper} {v : Value} {a a' : Act} (h : yields0 P ops o v a) (he : execOp a'.eval o = execOp a.eval o)
    (hw : Region.wanted o (yielded ops a'.tmps) = Region.wanted o (yielded ops a.tmps)) : yields0 P ops o v a' := by
  unfold yields0 at *
  rw [he, hw]
  exact h

theorem yields0.op {i : Nat} {o : Oper} {v : Value} {a : Act} {w : World} (hi : ops[i]? = some o) (hy : yields0 P ops o v a) {K : Act → World → Prop} (h : K (a.put o.dst v) w) : wpOp P ops Q i K a w := by
  unfold wpOp
  simp only [hi]
  rcases hy with ⟨hw, hv⟩ | ⟨hw, rfl⟩
  · simp only [hw, if_true, Oper.wp, hv w, Oper.upon]; exact .inl h
  · simp only [hw, Bool.false_eq_true, if_false]; exact h

theorem op_before0 {j : Nat} {oi oj : Oper} {v : Value} (hj : ops[j]? = some oj) (hap : oi.apart ops oj = true) (hsi : ∀ cs b, oi.op ≠ .select cs b) (hsj : ∀ cs b, oj.op ≠ .select cs b)
    (hQ : ∀ c a w, ¬ Q (.panic c) a w) {K : Act → World → Prop} {a : Act} {w : World} (hy : yields0 P ops oi v a) (h : wpOp P ops Q j K (a.put oi.dst v) w) :
    wpOp P ops Q j (fun a' w' => yields0 P ops oi v a' ∧ K (a'.put oi.dst v) w') a w := by
  obtain ⟨h1, h2, h3⟩ := Oper.apart_spec hap
  have keep : ∀ (u : Value), yields0 P ops oi v (a.put oj.dst u) := fun u => hy.step (execOp_put oi hsi a oj.dst u h3) (wanted_put oi a oj.dst u h3)
  have fin : ∀ (u : Value) (w' : World), K ((a.put oi.dst v).put oj.dst u) w' → yields0 P ops oi v (a.put oj.dst u) ∧ K ((a.put oj.dst u).put oi.dst v) w' := by
    intro u w' hk
    exact ⟨keep u, by rw [← Act.put_comm a v u h2]; exact hk⟩
  unfold wpOp at *
  simp only [hj] at *
  rw [wanted_put oj a oi.dst v h1] at h
  by_cases hw : Region.wanted oj (yielded ops a.tmps) = true
  · rw [if_pos hw] at h ⊢
    rcases h with h | ⟨hasks, hlets⟩
    · left
      unfold Oper.wp at *
      rw [execOp_put oj hsj a oi.dst v h1] at h
      generalize (execOp a.eval oj).run P w = r at *
      cases r with
      | ok n w' =>
        cases n with
        | value u => exact fin u w' h
        | skip => exact fin undef w' h
        | defer d =>
          simp only [Oper.upon] at h ⊢
          refine ⟨?_, by rw [← Act.put_comm _ v undef h2, ← Act.put_defers]; exact h⟩
          have hy1 : yields0 P ops oi v { a with defers := d :: a.defers } := hy.step rfl rfl
          exact hy1.step (execOp_put oi hsi _ oj.dst undef h3) (wanted_put oi _ oj.dst undef h3)
        | enter f args =>
          simp only [Oper.upon] at h ⊢
          refine h.mono fun e w'' he => ?_
          cases e with
          | returned u => exact fin u w'' he
          | panicked c => exact (hQ _ _ _ he).elim
          | outgrown => exact he
        | row row args => exact Rows.mono h fun u w'' he => fin u w'' he
        | _ => exact h
      | halt x w' =>
        cases x <;> simp only [Oper.upon] at h ⊢
        exact (hQ _ _ _ h).elim
    · right
      refine ⟨?_, hlets⟩
      unfold Oper.asks at *
      rw [execOp_put oj hsj a oi.dst v h1] at hasks
      exact hasks
  · rw [if_neg hw] at h ⊢
    exact fin undef w h

theorem anyL_first0 {late : List Nat} {i : Nat} {oi : Oper} {v : Value} (hi : ops[i]? = some oi) (hsel : ∀ (j : Nat) (o : Oper) cs b, ops[j]? = some o → o.op ≠ .select cs b) (hQ : ∀ c a w, ¬ Q (.panic c) a w) :
    ∀ (n : Nat) (listed : Array Bool) (a : Act) (w : World),
      (∀ j oj, ops[j]? = some oj → j ≠ i → listed.getD j true = false → (∀ e ∈ oj.after, Region.binds .any e = true → e.on ≠ i) → oi.apart ops oj = true) →
      i ∈ Region.ready .any ops listed → yields0 P ops oi v a → anyL late P ops Q n (listed.setIfInBounds i true) (a.put oi.dst v) w → anyL late P ops Q (n + 1) listed a w := by
  intro n
  induction n with
  | zero =>
    intro listed a w _ hr hy H
    refine ⟨fun h => (by rw [h] at hr; cases hr), fun j hj => ?_⟩
    by_cases hji : j = i
    · subst hji; exact hy.op hi ⟨.inl (ExtW.refl w), H⟩
    · have := ready_mono hj hji
      rw [H.1] at this
      cases this
  | succ n ih =>
    intro listed a w hfree hr hy H
    refine ⟨fun h => (by rw [h] at hr; cases hr), fun j hj => ?_⟩
    by_cases hji : j = i
    · subst hji; exact hy.op hi ⟨.inl (ExtW.refl w), H⟩
    · have g1 := H.2 j (ready_mono hj hji)
      obtain ⟨hjun, oj, hoj, hall⟩ := mem_ready.1 hj
      have hnot : ∀ e ∈ oj.after, Region.binds .any e = true → e.on ≠ i := by
        intro e he hb heq
        have l1 := hall e he hb
        have l0 := (mem_ready.1 hr).1
        rw [heq] at l1
        rcases Nat.lt_or_ge i listed.size with h' | h'
        · simp [h'] at l0 l1
          rw [l0] at l1
          cases l1
        · simp [Array.getElem?_eq_none h'] at l1
      have g2 := op_before0 hoj (hfree j oj hoj hji hjun hnot) (fun cs b => hsel i oi cs b hi) (fun cs b => hsel j oj cs b hoj) hQ hy g1
      have hfree' : ∀ k ok, ops[k]? = some ok → k ≠ i → (listed.setIfInBounds j true).getD k true = false → (∀ e ∈ ok.after, Region.binds .any e = true → e.on ≠ i) → oi.apart ops ok = true := by
        intro k ok hk hki hun hno
        refine hfree k ok hk hki ?_ hno
        by_cases hjk : j = k
        · subst hjk; exact hjun
        · rw [getD_set_ne true hjk] at hun; exact hun
      refine wpOp_mono (fun a' w' g3 => ⟨g3.2.1, ih (listed.setIfInBounds j true) a' w' hfree' (ready_mono hr (Ne.symm hji)) g3.1 ?_⟩) g2
      rw [Array.setIfInBounds_comm _ _ hji]
      exact g3.2.2
end

/-- The operation hands back a value that no world changes. -/
def Lt0 (P : Program) (C : Ctx) (s : St) (o : Oper) (sv : SV) : Prop :=
  ∀ m a w, SimM C s m a w → ∃ v, (∀ w', (execOp a.eval o).run P w' = .ok (.value v) w') ∧ RS w (Gd C s.rows m w) m s.rows.length sv v

section
variable {late : List Nat} {P : Program} {C : Ctx} {ops : Array Oper} {K : St → Prop} {s : St} {n : Nat} {listed : Array Bool} {t : Nat} {ty : TypeId} {pos : String} {af : Array Edge}

theorem l0_move {x : Operand} : Lt0 P C s ⟨some t, .move x, ty, pos, af, none⟩ (getO s.env x) := fun m a w hs => ⟨a.eval x, fun _ => rfl, hs.get x⟩
theorem l0_move_pv {x : Operand} {f : Bool} {p : PV} (hx : getO s.env x = .pv f p) : Lt0 P C s ⟨some t, .move x, ty, pos, af, none⟩ (.pv f p) := by rw [← hx]; exact l0_move
theorem vl_light0 (i : Nat) {o : Oper} {t : Nat} {sv : SV} (hi : ops[i]? = some o) (hd : o.dst = some t) (ht : Nat.blt t s.n = true) (hr : (Region.ready .any ops listed).contains i = true) (hns : Region.noSelect ops = true)
    (hf : Region.free .any ops listed i = true) (hw : Wnt C ops s o true) (hl : Lt0 P C s { o with guard := none } sv) (next : VL late P C ops n (listed.setIfInBounds i true) K (s.put t sv)) : VL late P C ops (n + 1) listed K s := by
  intro m a w hs
  obtain ⟨v, hrun, hv⟩ := hl m a w hs
  refine anyL_first0 hi (Region.noSelect_spec hns) post0_panic n listed a w (Region.free_spec hi hf) (by simpa using hr) (.inl ⟨hw m a w hs, hrun⟩) ?_
  rw [hd]
  exact next m _ _ (hs.put (blt_lt ht) hv)
end
end Go.Vl

/- A row that holds numbers alone points nowhere. -/
namespace Go.Vl
set_option linter.unusedVariables false
set_option linter.unusedSimpArgs false
open Go.RowKit

section
variable {P : Program} {C : Ctx} {Q : Go.Exit → St → Prop} {s : St} {ops : Array Oper}

end
end Go.Vl

/- Statements at which two orders of evaluation are known: what holds in whatever order holds in both. -/
namespace Go.Vl
set_option linter.unusedVariables false
set_option linter.unusedSimpArgs false
open Go.RowKit

section
variable {P : Program} {ops : Array Oper} {Q : Go.Exit → Act → World → Prop}

/-- An order in which all can come. -/
def orderB (md : Region.Mode) (ops : Array Oper) : List Nat → List Nat → Bool
  | seen, [] => (List.range ops.size).all fun j => seen.contains j
  | seen, i :: r => (match ops[i]? with
    | some o => o.after.all fun e => !Region.binds md e || seen.contains e.on
    | none => true) && orderB md ops (i :: seen) r

end

end Go.Vl

/- Elements of several cells in a row of the call's own: one cell of them, or a part that is a struct, is read. -/
namespace Go.Vl
set_option linter.unusedVariables false
set_option linter.unusedSimpArgs false
open Go.RowKit

section
variable {P : Program} {C : Ctx} {Q : Go.Exit → St → Prop} {s : St} {ops : Array Oper} {rest : List Oper} {t : Nat} {ty : TypeId} {pos : String} {af : Array Edge}

end
end Go.Vl

/- A row takes another one in and may move: 'append' of a slice that is the program's own to a row whose slices are its own. -/
namespace Go.Vl
set_option linter.unusedVariables false
set_option linter.unusedSimpArgs false
open Go.RowKit

end Go.Vl

/- Rows whose slices are their own: a slice literal of one such slice, and 'append'. -/
namespace Go.Vl
set_option linter.unusedVariables false
set_option linter.unusedSimpArgs false
open Go.RowKit

section
variable {P : Program} {C : Ctx} {Q : Go.Exit → St → Prop} {s : St} {ops : Array Oper} {rest : List Oper} {t : Nat} {ty : TypeId} {pos : String} {af : Array Edge}

end
end Go.Vl

/- A row whose slices are its own becomes a row of slices that are read alone. -/
namespace Go.Vl
set_option linter.unusedVariables false
set_option linter.unusedSimpArgs false
open Go.RowKit
section
variable {P : Program} {C : Ctx} {Q : Go.Exit → St → Prop} {s : St} {ops : Array Oper}

end
end Go.Vl

/- Structs whose cells are rows of the call's own: built, boxed, read, written. -/
namespace Go.Vl
set_option linter.unusedVariables false
set_option linter.unusedSimpArgs false
open Go.RowKit

def cellsG : SV → Option (List SV)
  | .ag ys => some ys
  | .pv f p => some (p.cells.map fun c => .pv (f || c.scal) c)
  | .ref id => some [.ref id]
  | .ptr id e i o => some [.ptr id e i o]
  | _ => none

def okG (rows : List Row) : SV → Bool
  | .ref id => match rows[id]? with
    | some r => r.live
    | none => false
  | _ => true

section
variable {P : Program} {C : Ctx} {Q : Go.Exit → St → Prop} {s : St}
variable {ops : Array Oper} {rest : List Oper} {t : Nat} {ty : TypeId} {pos : String} {af : Array Edge}

theorem row_one {w : World} {G : Bool → Nat → Prop} {m : Nat → MV} {N : Nat} {mv : MV} {r : Row} (h : RowOK w G m N mv r) (hl : r.live = true) : mv.v.oneCell' = true := by
  cases h with
  | dead => cases hl
  | gh => cases hl
  | own v t e nl fr xs vs hown => rcases hown.2 with ⟨rfl, _⟩ | ⟨g, cap, cur, rfl, _⟩ <;> rfl
  | var => rfl
  | mp => rfl
  | tree mv t e nl h xs vals Sf hown => rcases hown.2 with ⟨h, _⟩ | ⟨g, cap, cur, h, _⟩ <;> rw [h] <;> rfl

theorem cells_one {v : Value} (h : v.oneCell' = true) : v.cells = #[v] := by cases v <;> simp_all [Value.cells, Value.oneCell']

theorem SimM.cellsG {m : Nat → MV} {a : Act} {w : World} (h : SimM C s m a w) {x : Operand} {ys : List SV} (hy : cellsG (getO s.env x) = some ys) (hok : okG s.rows (getO s.env x) = true) :
    (a.eval x).cells.size = ys.length ∧ (∀ (j : Nat) (c : SV) (u : Value), ys[j]? = some c → (a.eval x).cells[j]? = some u → RS w (Gd C s.rows m w) m s.rows.length c u) ∧
      (∀ (j : Nat) (u : Value), (a.eval x).cells[j]? = some u → u.oneCell' = true) := by
  have hv := h.get x
  have one : ∀ (sv : SV) (v : Value), RS w (Gd C s.rows m w) m s.rows.length sv v → v.oneCell' = true → ys = [sv] →
      v.cells.size = ys.length ∧ (∀ (j : Nat) (c : SV) (u : Value), ys[j]? = some c → v.cells[j]? = some u → RS w (Gd C s.rows m w) m s.rows.length c u) ∧ (∀ (j : Nat) (u : Value), v.cells[j]? = some u → u.oneCell' = true) := by
    intro sv v hr h1 e
    subst e
    rw [cells_one h1]
    refine ⟨rfl, fun j c u hc hu => ?_, fun j u hu => ?_⟩
    · match j, hc, hu with
      | 0, hc, hu => simp at hc hu; subst hc; subst hu; exact hr
    · match j, hu with
      | 0, hu => simp at hu; subst hu; exact h1
  generalize getO s.env x = sv at *
  generalize a.eval x = v at *
  cases hv with
  | any => cases hy
  | val => cases hy
  | und => cases hy
  | adr => cases hy
  | tup => cases hy
  | sub => cases hy
  | clo => cases hy
  | ag vs us hl h9 h1 => cases hy; exact ⟨hl, h9, h1⟩
  | ref id hid =>
    simp only [Vl.cellsG, Option.some.injEq] at hy
    simp only [okG] at hok
    split at hok
    · rename_i r hr
      exact one _ _ (.ref id hid) (row_one (h.rows id r hr) hok) hy.symm
    · cases hok
  | ptr id e i o b hid hb =>
    simp only [Vl.cellsG, Option.some.injEq] at hy
    exact one _ _ (.ptr id e i o b hid hb) rfl hy.symm
  | pv fr p v hp =>
    simp only [Vl.cellsG, Option.some.injEq] at hy
    subst hy
    have hc := hp.cells
    refine ⟨by simpa using hc.1, fun j c u hcj hu => ?_, fun j u hu => ?_⟩
    · simp only [List.getElem?_map, Option.map_eq_some_iff] at hcj
      obtain ⟨c', hc', rfl⟩ := hcj
      obtain ⟨u', hu', hp'⟩ := hc.2 j c' hc'
      rw [hu] at hu'
      cases hu'
      cases hsc : c'.scal with
      | true => simp only [Bool.or_true]; exact .pv _ _ _ (hp'.scal_any hsc)
      | false => simp only [Bool.or_false]; exact .pv _ _ _ hp'
    · have hj : j < p.cells.length := by rw [← hc.1]; exact (Array.getElem?_eq_some_iff.1 hu).1
      obtain ⟨u', hu', hp'⟩ := hc.2 j _ (List.getElem?_eq_getElem hj)
      rw [hu] at hu'
      cases hu'
      refine hp'.oneCell ?_
      cases hp with
      | agg cs vs hl h1 h9 => exact h1 j _ (List.getElem?_eq_getElem hj)
      | _ => simp only [PV.cells] at hj ⊢; have : j = 0 := by simpa using hj
             subst this; rfl

def applyG (pl : List (Nat × Nat)) : List SV → List (Nat × List SV) → Option (List SV)
  | cs, [] => some cs
  | cs, (k, p) :: r => match pl[k]? with
    | some (off, sz) => bif Nat.beq p.length sz && Nat.ble (off + sz) cs.length then applyG pl (cs.take off ++ p ++ cs.drop (off + sz)) r else none
    | none => none

def collectG (env : List (Nat × SV)) (rows : List Row) : List (Nat × Operand) → Option (List (Nat × List SV))
  | [] => some []
  | (k, x) :: r => match cellsG (getO env x), collectG env rows r with
    | some ys, some ps => bif okG rows (getO env x) then some ((k, ys) :: ps) else none
    | _, _ => none

end
end Go.Vl

/- 'append' to a row whose cells' type is not known (it was taken out of another), and a tree's cell that is known. -/
namespace Go.Vl
set_option linter.unusedVariables false
set_option linter.unusedSimpArgs false
open Go.RowKit
section
variable {P : Program} {C : Ctx} {Q : Go.Exit → St → Prop} {s : St} {ops : Array Oper} {rest : List Oper} {t : Nat} {ty : TypeId} {pos : String} {af : Array Edge}

end
section
variable {late : List Nat} {P : Program} {C : Ctx} {ops : Array Oper} {K : St → Prop} {s s1 : St} {n : Nat} {listed : Array Bool}
def StepV (late : List Nat) (P : Program) (C : Ctx) (ops : Array Oper) (n : Nat) (listed : Array Bool) (K : St → Prop) (s : St) (i : Nat) : Prop :=
  ∀ m a w, SimM C s m a w → wpOp P ops (post0 C K) i (fun a' w' => (ExtW w w' ∨ late.contains i = true) ∧ anyL late P ops (post0 C K) n (listed.setIfInBounds i true) a' w') a w
end
end Go.Vl

/- Rows of structs whose slices are their own: an element's slices are taken out as rows, and put back. -/
namespace Go.Vl
set_option linter.unusedVariables false
set_option linter.unusedSimpArgs false
open Go.RowKit

def okTake : PV → Bool
  | .sl _ _ _ => true
  | c => c.scal

def takePV (c : PV) : PV := match c with
  | .sl _ _ _ => .gone
  | c => c

def takeP : PV → PV
  | .agg cs => .agg (cs.map takePV)
  | c => takePV c

def takeSV : Nat → List PV → List SV
  | _, [] => []
  | N, .sl _ _ _ :: cs => .ref N :: takeSV (N + 1) cs
  | N, c :: cs => .pv true c :: takeSV N cs

def takeRows (Rf : Nat → TypeId) : Nat → List PV → List Row
  | _, [] => []
  | k, .sl nl e xs :: cs => .tree (Rf k) e nl none xs :: takeRows Rf (k + 1) cs
  | k, _ :: cs => takeRows Rf k cs

/-- The places of the slices among cells. -/
def takePos : Nat → List PV → List Nat
  | _, [] => []
  | j, .sl _ _ _ :: cs => j :: takePos (j + 1) cs
  | j, _ :: cs => takePos (j + 1) cs

section
variable {P : Program} {C : Ctx} {Q : Go.Exit → St → Prop} {s : St} {ops : Array Oper} {rest : List Oper} {t : Nat} {ty : TypeId} {pos : String} {af : Array Edge}

end
end Go.Vl

/- An element's slices are put back into a row whose slices are its own; literals of such elements, and 'append'. -/
namespace Go.Vl
set_option linter.unusedVariables false
set_option linter.unusedSimpArgs false
open Go.RowKit

def deadAll (ks : List Nat) (rows : List Row) : List Row := ks.foldl (fun r k => r.set k .dead) rows

def refsOf : List SV → List Nat
  | [] => []
  | .ref k :: r => k :: refsOf r
  | _ :: r => refsOf r

/-- What goes into a cell. -/
def pvT (rows : List Row) : SV → Option PV
  | .pv _ c => bif c.scal then some c else match c with
    | .sl (some true) e [] => some (.sl (some true) e [])
    | _ => none
  | .ref k => match rows[k]? with
    | some (.tree _ e nl none xs) => some (.sl nl e xs)
    | _ => none
  | _ => none

def pvTs (rows : List Row) : List SV → Option (List PV)
  | [] => some []
  | y :: ys => match pvT rows y, pvTs rows ys with
    | some p, some ps => some (p :: ps)
    | _, _ => none

/-- The blocks of a cell's own. -/
def sOf (m : Nat → MV) (ys : List SV) (j b : Nat) : Prop := ∃ k, ys[j]? = some (.ref k) ∧ (m k).S b

section
variable {P : Program} {C : Ctx} {Q : Go.Exit → St → Prop} {s : St} {ops : Array Oper} {rest : List Oper} {t : Nat} {ty : TypeId} {pos : String} {af : Array Edge}

end
end Go.Vl

/- Literals of elements whose slices are their own; 'append' of them; their plain cells. -/
namespace Go.Vl
set_option linter.unusedVariables false
set_option linter.unusedSimpArgs false
open Go.RowKit

section
variable {P : Program} {C : Ctx} {Q : Go.Exit → St → Prop} {s : St} {ops : Array Oper} {rest : List Oper} {t : Nat} {ty : TypeId} {pos : String} {af : Array Edge}

end
end Go.Vl

/- Maps from numbers to numbers that the call made itself. -/
namespace Go.Vl
set_option linter.unusedVariables false
set_option linter.unusedSimpArgs false
open Go.RowKit

def mapI (h : Int → Option Int) : Int → Option PV := fun k => (h k).map intP
def updI (h : Int → Option Int) (k v : Int) : Int → Option Int := fun j => if j = k then some v else h j
def delI (h : Int → Option Int) (k : Int) : Int → Option Int := fun j => if j = k then none else h j
def nilI : Int → Option Int := fun _ => none

section
variable {P : Program} {C : Ctx} {Q : Go.Exit → St → Prop} {s : St} {ops : Array Oper} {rest : List Oper} {t : Nat} {ty : TypeId} {pos : String} {af : Array Edge}

end
end Go.Vl

/- Parts of a slice of the call's own: 'append(x[:i], x[j:]...)', a slice cut shorter, 'clear' behind its end. -/
namespace Go.Vl
set_option linter.unusedVariables false
set_option linter.unusedSimpArgs false
open Go.RowKit

section
variable {P : Program} {C : Ctx} {Q : Go.Exit → St → Prop} {s : St} {ops : Array Oper} {rest : List Oper} {t : Nat} {ty : TypeId} {pos : String} {af : Array Edge}

theorem SimM.sub {m : Nat → MV} {a : Act} {w : World} (hs : SimM C s m a w) {x : Operand} {id e l h c : Nat} (hx : getO s.env x = .sub id e l h c) : isSub (m id).v e l h c (a.eval x) ∧ id < s.rows.length := by
  have := hs.get x
  rw [hx] at this
  generalize a.eval x = v at this
  cases this with
  | sub _ _ _ _ _ _ hid hs => exact ⟨hs, hid⟩

end
end Go.Vl

/- Loops in which some slots and some rows turn; states made plain. -/
namespace Go.Vl
set_option linter.unusedVariables false
set_option linter.unusedSimpArgs false
open Go.RowKit

def setAll : List Row → List Nat → List Row → List Row
  | rows, [], _ => rows
  | rows, _ :: _, [] => rows
  | rows, i :: is, r :: rs => setAll (rows.set i r) is rs

def pickR (rows : List Row) (ch : List Nat) : List Row := ch.map fun i => (rows[i]?).getD .dead

section
variable {P : Program} {C : Ctx} {Q : Go.Exit → St → Prop} {s : St}

def againE (N : Nat) (Lf Lv ch : List Nat) (k : Nat) (F : List SV) (R : List Row) (I : Nat → List SV → List Row → Prop) (n : Nat) (s' : St) : Prop :=
  again N (Lf ++ Lv) k (fun m us rows => us.take Lf.length = F ∧ ∃ rs, rs.length = ch.length ∧ rows = setAll R ch rs ∧ I m (us.drop Lf.length) rs) n s'

/-- A loop whose slots Lf stay as they are, and all rows but those of ch. -/
theorem vc_loopE {c : Code} (Lf Lv ch : List Nat) (F : List SV) (R : List Row) (I : Nat → List SV → List Row → Prop) (n0 : Nat) (hF : (Lf.map fun t => look s.env t) = F) (hR : s.rows = R) (hnb : C.nb ≤ R.length)
    (hb0 : F.all (SV.bdd R.length) = true ∧ (Lv.map fun t => look s.env t).all (SV.bdd R.length) = true ∧ R.all (Row.bdd R.length) = true) (hself : setAll R ch (pickR R ch) = R)
    (h0 : I n0 (Lv.map fun t => look s.env t) (pickR R ch))
    (hround : ∀ n vs rs, vs.length = Lv.length → rs.length = ch.length → I n vs rs → VC P C c (thn (againE s.n Lf Lv ch R.length F R I n) Q) ⟨s.n, Lf.zip F ++ Lv.zip vs, setAll R ch rs⟩) :
    VC P C (.loop c) Q s := by
  subst hR
  subst hF
  have hl : (Lf.map fun t => look s.env t).length = Lf.length := by simp
  refine vc_loop (Lf ++ Lv) (fun m us rows => us.take Lf.length = (Lf.map fun t => look s.env t) ∧ ∃ rs, rs.length = ch.length ∧ rows = setAll s.rows ch rs ∧ I m (us.drop Lf.length) rs) n0 hnb ⟨?_, hb0.2.2⟩ ⟨?_, pickR s.rows ch, by simp [pickR], hself.symm, ?_⟩ ?_
  · rw [List.map_append, List.all_append, hb0.1, hb0.2.1]; rfl
  · rw [List.map_append]; simp
  · rw [List.map_append, show Lf.length = (Lf.map fun t => look s.env t).length from hl.symm, List.drop_left]; exact h0
  · rintro n vs rows hv - ⟨h1, rs, hrs, rfl, h2⟩
    have hv' : vs.length = Lf.length + Lv.length := by simpa using hv
    have := hround n (vs.drop Lf.length) rs (by simp; omega) hrs h2
    have e : (Lf ++ Lv).zip vs = Lf.zip (Lf.map fun t => look s.env t) ++ Lv.zip (vs.drop Lf.length) := by
      rw [← h1]
      conv => lhs; rw [← List.take_append_drop Lf.length vs]
      exact List.zip_append (by simp; omega)
    rw [e]
    exact this

theorem againE_mk {N : Nat} {Lf Lv ch : List Nat} {k : Nat} {F : List SV} {R : List Row} {I : Nat → List SV → List Row → Prop} {n : Nat} {s' : St} (h0 : Nat.beq s'.n N = true) (h1 : Nat.ble k s'.rows.length = true)
    (h2 : ((Lf ++ Lv).map fun t => look s'.env t).all (SV.bdd k) = true) (h3 : (s'.rows.take k).all (Row.bdd k) = true)
    (hF : (Lf.map fun t => look s'.env t) = F) (hR : s'.rows.take k = setAll R ch (pickR s'.rows ch))
    (h : ∃ n', n' < n ∧ I n' (Lv.map fun t => look s'.env t) (pickR s'.rows ch)) : againE N Lf Lv ch k F R I n s' := by
  refine ⟨⟨Nat.eq_of_beq_eq_true h0, Nat.le_of_ble_eq_true h1, h2, h3⟩, ?_⟩
  obtain ⟨n', hn, hI⟩ := h
  refine ⟨n', hn, ?_, pickR s'.rows ch, by simp [pickR], hR, ?_⟩
  · rw [List.map_append, ← hF]; simp
  · rw [List.map_append, show Lf.length = (Lf.map fun t => look s'.env t).length by simp, List.drop_left]; exact hI
end

section
variable {late : List Nat} {P : Program} {C : Ctx} {Q : Go.Exit → St → Prop} {K : St → Prop} {s s' : St} {ops : Array Oper} {n : Nat} {listed : Array Bool}
theorem vo_stM {l : List Oper} (next : VO P C ops l Q s') (h : s = s' := by (try simp only [St.put, exposeE, killE, SV.expose, SV.kill, Row.expose, Row.kill, rowsAfter_nil, rowsAfter_one, packS, SV.shift, placeOf, enumE, List.zip_cons_cons, List.zip_nil_right, List.map_cons, List.map_nil, List.set_cons_zero, List.set_cons_succ, List.length_cons, List.length_nil, List.cons_append, List.nil_append, List.drop_succ_cons, List.drop_zero, List.drop_nil, List.take_succ_cons, List.take_zero, List.take_nil, List.getElem?_cons_zero, List.getElem?_cons_succ, List.getElem?_nil, Option.getD_some, Option.getD_none, Option.map_some, Option.map_none, Nat.reduceAdd, Nat.reduceSub, Nat.reduceEqDiff, Nat.zero_add, Bool.true_or, PV.scal, Bool.or_false, Bool.or_true, Bool.false_or, Bool.and_true, Bool.and_false, Bool.true_and, reduceIte, reduceCtorEq, SV.kill1, SV.expose1, deadAll, refsOf, List.foldl_cons, List.foldl_nil, takeSV, takeRows, takeP, takePV, setAll, resG, look_cons, Nat.succ.injEq, Nat.add_eq, Nat.mul_one, Nat.mul_zero, Nat.zero_mul, Nat.add_zero, List.map_map, PV.cells, Nat.reduceMul, List.append_nil, Option.some.injEq, Int.toNat_natCast]); exact eq_refl _) : VO P C ops l Q s := vo_st h next
theorem vc_stM {code : Code} (next : VC P C code Q s') (h : s = s' := by (try simp only [St.put, exposeE, killE, SV.expose, SV.kill, Row.expose, Row.kill, rowsAfter_nil, rowsAfter_one, packS, SV.shift, placeOf, enumE, List.zip_cons_cons, List.zip_nil_right, List.map_cons, List.map_nil, List.set_cons_zero, List.set_cons_succ, List.length_cons, List.length_nil, List.cons_append, List.nil_append, List.drop_succ_cons, List.drop_zero, List.drop_nil, List.take_succ_cons, List.take_zero, List.take_nil, List.getElem?_cons_zero, List.getElem?_cons_succ, List.getElem?_nil, Option.getD_some, Option.getD_none, Option.map_some, Option.map_none, Nat.reduceAdd, Nat.reduceSub, Nat.reduceEqDiff, Nat.zero_add, Bool.true_or, PV.scal, Bool.or_false, Bool.or_true, Bool.false_or, Bool.and_true, Bool.and_false, Bool.true_and, reduceIte, reduceCtorEq, SV.kill1, SV.expose1, deadAll, refsOf, List.foldl_cons, List.foldl_nil, takeSV, takeRows, takeP, takePV, setAll, resG, look_cons, Nat.succ.injEq, Nat.add_eq, Nat.mul_one, Nat.mul_zero, Nat.zero_mul, Nat.add_zero, List.map_map, PV.cells, Nat.reduceMul, List.append_nil, Option.some.injEq, Int.toNat_natCast]); exact eq_refl _) : VC P C code Q s := vc_st h next
end
end Go.Vl

/- The way into a function, and what it hands back: values, structs, and rows of its own. -/
namespace Go.Vl
set_option linter.unusedVariables false
set_option linter.unusedSimpArgs false
open Go.RowKit

def retQ (C : Ctx) (rs : List (Nat × Option (Nat × Nat))) (R : List SV → List Row → Prop) (e : Go.Exit) (s : St) : Prop :=
  (e = .normal ∨ e = .ret) ∧ rs.all (resGOK s) = true ∧ ∃ res rows', res.length = rs.length ∧ Hands C (List.range rs.length) res rows' ⟨rs.length, enumE 0 (rs.map (resG s)), s.rows⟩ ∧ R res rows'

section
variable {P : Program}

theorem sat_entry_G {f : FuncId} {fn : Func} {c : Code} {args : List SV} {rows : List Row} {R : List SV → List Row → Prop} {rs : List (Nat × Option (Nat × Nat))} (hf : P.funcs[f]? = some fn) (hb : fn.body = some c)
    (hr : fn.results = (rs.map resVar).toArray) (hl : rs.length ≤ 5) (hn : args.length ≤ fn.ntmps) (hT : ∀ r ∈ rs, resT P r)
    (h : ∀ C : Ctx, C.nb = rows.length → VC P C c (retQ C rs R) ⟨fn.ntmps, enumE 0 args, rows⟩) : SatAt P f args rows R := by
  intro C m vals hnb hA hv hs
  refine calls_of_wp hf hb ?_
  have hs2 : SimM C ⟨fn.ntmps, enumE 0 args, rows⟩ m { tmps := vals ++ Array.replicate (fn.ntmps - vals.size) undef, defers := [] } C.w0 := by
    refine { hs with size := ?_, env := fun t => ?_, defs := rfl }
    · simp; omega
    · have := hs.env t
      show RS _ _ _ _ (look (enumE 0 args) t) _
      change RS _ _ _ _ (look (enumE 0 args) t) _ at this
      by_cases ht : t < vals.size
      · have e : (vals ++ Array.replicate (fn.ntmps - vals.size) undef).getD t undef = vals.getD t undef := by
          simp [Array.getD, ht]
          intro hh; omega
        rw [e]
        exact this
      · have e : look (enumE 0 args) t = .any := by
          rw [look_enumE]
          simp
          rw [List.getElem?_eq_none (by omega)]
          rfl
        rw [e]
        exact .any _
  refine wp_mono (h C hnb _ _ ⟨m, hs2⟩) ?_
  rintro e a w' ⟨s', ⟨m', hs'⟩, he, hok, res, rows', hlen, hh, hR⟩
  obtain ⟨us, hrun, hul, hus⟩ := run_resGA (P := P) hs' hr hl hT hok
  have hs3 : SimM C ⟨rs.length, enumE 0 (rs.map (resG s')), s'.rows⟩ m' ⟨us, []⟩ w' := { hs' with
    defs := rfl
    size := hul
    env := fun t => by
      show RS _ _ _ _ (look (enumE 0 (rs.map (resG s'))) t) _
      rw [look_enumE]
      simp only [Nat.zero_le, if_true, Nat.sub_zero]
      rcases Nat.lt_or_ge t rs.length with ht | ht
      · simp only [List.getElem?_map, List.getElem?_eq_getElem ht, Option.map_some, Option.getD_some]
        exact hus t _ (List.getElem?_eq_getElem ht)
      · simp only [List.getElem?_map, List.getElem?_eq_none ht, Option.map_none, Option.getD_none]
        exact .any _ }
  obtain ⟨m2, hm2⟩ := hh m' _ w' hs3
  have hts : ((List.range rs.length).map fun t => us.getD t undef).toArray = us := by
    apply Array.ext_getElem?
    intro i
    simp only [List.getElem?_toArray, List.getElem?_map]
    rcases Nat.lt_or_ge i rs.length with hi | hi
    · rw [List.getElem?_range hi, Array.getElem?_eq_getElem (by omega)]
      simp [Array.getD, show i < us.size by omega]
    · rw [List.getElem?_eq_none (by simpa using hi), Array.getElem?_eq_none (by omega)]
      rfl
  have key : ∃ v, (results fn a.tmps).run P w' = .ok v w' ∧ (∃ (us : Array Value) (res : List SV) (rows' : List Row) (m' : Nat → MV), Ending.returned v = .returned (pack us) ∧ us.size = res.length ∧
      SimM C ⟨us.size, enumE 0 res, rows'⟩ m' ⟨us, []⟩ w' ∧ R res rows') := by
    refine ⟨_, hrun, us, res, rows', m2, rfl, by rw [hul, hlen], ?_, hR⟩
    change SimM C ⟨_, _, _⟩ m2 ⟨((List.range rs.length).map fun t => us.getD t undef).toArray, []⟩ w' at hm2
    rw [hts] at hm2
    rw [hul]
    simpa using hm2
  obtain ⟨v, hv1, hv2⟩ := key
  rcases he with rfl | rfl
  · exact ⟨hs'.defs, v, hv1, hv2⟩
  · exact ⟨hs'.defs, v, hv1, hv2⟩

theorem retQ_sel {C : Ctx} {rs : List (Nat × Option (Nat × Nat))} {R : List SV → List Row → Prop} {s : St} {e : Go.Exit} {k : Nat} (sel : List Nat) {srows : List Row} (he : e = .normal ∨ e = .ret) (hnb : C.nb = k) (hok : rs.all (resGOK s) = true) (hkl : Nat.ble k s.rows.length = true)
    (h3 : sel.map (placeOf sel) = (List.range sel.length).map some) (hsr : sel.map (fun id => s.rows[id]?) = srows.map some) (hge : sel.all (fun id => Nat.ble k id) = true) (hb1 : (s.rows.take k).all (Row.bdd k) = true) (hb2 : srows.all (Row.bdd 0) = true)
    (hR : R ((List.range rs.length).map fun t => renS k sel (look (enumE 0 (rs.map (resG s))) t)) (s.rows.take k ++ srows)) : retQ C rs R e s :=
  ⟨he, hok, _, _, by simp, hands_sel (s := ⟨rs.length, enumE 0 (rs.map (resG s)), s.rows⟩) (ts := List.range rs.length) sel hnb hkl h3 hsr hge hb1 hb2, hR⟩
end
end Go.Vl

/- A field of an element of a row is written. -/
namespace Go.Vl
set_option linter.unusedVariables false
set_option linter.unusedSimpArgs false
open Go.RowKit
section
variable {P : Program} {C : Ctx} {Q : Go.Exit → St → Prop} {s : St} {ops : Array Oper} {rest : List Oper} {t : Nat} {ty : TypeId} {pos : String} {af : Array Edge}

theorem vo_store_ownC {x y : Operand} {T id R e i o : Nat} {nl : Option Bool} {fr f : Bool} {xs cs : List PV} {c : PV} {inf : TypeInfo} (hx : getO s.env x = .ptr id e i o) (hrow : s.rows[id]? = some (.own R e nl fr xs))
    (hy : getO s.env y = .pv f c) (hna : c.isAgg = false) (hinf : P.info? T = some inf) (hsz : inf.size = 1) (hget : xs[i]? = some (.agg cs)) (ho : Nat.blt o e = true)
    (next : VO P C ops rest Q ⟨s.n, s.env, s.rows.set id (.own R e nl (fr && (f || c.scal)) (xs.set i (.agg (cs.set o c))))⟩) :
    VO P C ops (⟨none, .store T x y, ty, pos, af, none⟩ :: rest) Q s := by
  refine vo_unit (s1 := { s with rows := s.rows.set id (.own R e nl (fr && (f || c.scal)) (xs.set i (.agg (cs.set o c)))) }) (fun m a w hs => ?_) next
  obtain ⟨b, hv, hb, hid⟩ := hs.ptr hx
  have ho := blt_lt ho
  have hvy := hs.get y
  rw [hy] at hvy
  have hvy := hvy.pv_inv
  have hone := hvy.oneCell hna
  have hlive : liveAt s.rows id := ⟨_, hrow, rfl⟩
  have hi : i < xs.length := (List.getElem?_eq_some_iff.1 hget).1
  have hR := hs.rows id _ hrow
  generalize hmv : m id = v at *
  cases hR with
  | own v t' e nl fr xs vs hown h1 h2 hw hr =>
    have hvl : vs.length = xs.length * e := hown.1
    have hf := hw i _ hget
    have hcl : cs.length = e := hf.1
    rcases hown.2 with ⟨rfl, hn0⟩ | ⟨g, cap, cur, rfl, _, hh, hle, hmx, hcs, htk⟩
    · omega
    · simp only [MV.of, blk, Option.some.injEq] at hb
      have hgb : b = g := hb.symm
      subst hgb
      have hlt : i * e + o < xs.length * e := by
        have := Nat.mul_le_mul_right e (show i + 1 ≤ xs.length by omega)
        rw [Nat.add_mul] at this
        omega
      have hle2 : xs.length * e ≤ cap * e := Nat.mul_le_mul_right e hle
      have hcur : i * e + o < cur.size := by omega
      have hcell : w.cell? ⟨b, i * e + o, none⟩ = some cur[i * e + o] := by
        rw [cell_of_row w b _ cur R (0, 0) hh]; exact Array.getElem?_eq_getElem hcur
      have hfz : w.frozen? ⟨b, i * e + o, none⟩ = false := by simp [World.frozen?, hh]
      have hcells : (a.eval y).cells.toList = [a.eval y] := oneCell_cells hone
      have hcs1 : (a.eval y).cells.size = 1 := by
        have := congrArg List.length hcells
        simpa using this
      let w' := w.setCell ⟨b, i * e + o, none⟩ (a.eval y)
      have hst : (store (⟨b, i * e + o, none⟩ : Addr) (a.eval y)).run P w = .ok () w' := by
        rw [run_store P w _ _ _ hone, hcell]
        simp [hfz, w']
      have hheap' : w'.heap[b]? = some (.cells (cur.setIfInBounds (i * e + o) (a.eval y)) R (0, 0)) := heap_setCell_same w b (i * e + o) cur R _ hh
      have hg : w.grownBy w' (some b) := ⟨rfl, rfl, rfl, by simp [w', World.setCell], fun k _ hk => heap_setCell_other w ⟨b, i * e + o, none⟩ k _ (fun e => hk (by rw [e]))⟩
      refine ⟨w', m, ?_, ?_⟩
      · have hadd : (⟨b, i * e + o, none⟩ : Addr).add 0 = ⟨b, i * e + o, none⟩ := rfl
        simp [execOp, Instr.storeAt, hv, Instr.sureAddr, storeVar, sizeOf, typeInfo, hinf, hsz, hcs1, hcells, storeCells, hadd, hst]
      · refine hs.storeRow hlive (fun b' e => by cases e; rw [hmv]; rfl) hg _ (fun hG => ?_)
        rw [hmv]
        have hcomb : ∀ b, Gd C s.rows m w fr b → Gd C s.rows m w (fr && (f || c.scal)) b := by
          intro b hb
          cases hf1 : fr && (f || c.scal) with
          | false => exact hb.weak
          | true => simp only [Bool.and_eq_true] at hf1; rw [hf1.1] at hb; exact hb
        refine .own _ R e nl _ (xs.set i (.agg (cs.set o c))) (vs.set (i * e + o) (a.eval y)) ⟨by simp [hvl], .inr ⟨b, cap, _, by rw [List.length_set], Nat.zero_le _, hheap', by rw [List.length_set]; exact hle, hmx, by simp [hcs], ?_⟩⟩
          (fun h => by have := h1 h; simp at this) (fun _ h => by cases h) (fun k x hx => ?_) (fun k x j c' hx hc => ?_)
        · rw [List.length_set, Array.toList_setIfInBounds, List.take_set, htk]
        · rw [List.getElem?_set] at hx
          split at hx
          · cases hx
            refine ⟨by show (cs.set o c).length = e; simp [hcl], fun j c' hc' => ?_⟩
            change (cs.set o c)[j]? = some c' at hc'
            rw [List.getElem?_set] at hc'
            split at hc'
            · split at hc'
              · cases hc'; exact hna
              · cases hc'
            · exact hf.2 j c' hc'
          · exact hw k x hx
        · rw [List.getElem?_set] at hx
          split at hx
          · rename_i e1
            subst e1
            cases hx
            change (cs.set o c)[j]? = some c' at hc
            rw [List.getElem?_set] at hc
            split at hc
            · rename_i e2
              subst e2
              have hc : c = c' := by
                split at hc
                · cases hc; rfl
                · cases hc
              subst hc
              refine ⟨a.eval y, by rw [List.getElem?_set_self (by omega)], ?_⟩
              by_cases hsc : c.scal = true
              · exact hvy.scal_any hsc
              · refine hvy.mono fun b' hb' => hG _ _ ?_
                have hsc : c.scal = false := by simpa using hsc
                rw [hsc, Bool.or_false]
                cases fr with
                | false => exact hb'.weak
                | true => exact hb'
            · rename_i e2
              obtain ⟨u, hu, hp⟩ := hr i _ j c' hget hc
              have hjl : j < e := by rw [← hcl]; exact (List.getElem?_eq_some_iff.1 hc).1
              exact ⟨u, by rw [List.getElem?_set_ne (by omega)]; exact hu, hp.mono fun b' hb' => hG _ _ (hcomb _ hb')⟩
          · rename_i e1
            obtain ⟨u, hu, hp⟩ := hr k x j c' hx hc
            have hjl : j < e := by rw [← (hw k x hx).1]; exact (List.getElem?_eq_some_iff.1 hc).1
            have hne : i * e + o ≠ k * e + j := by
              intro h9
              have e2 : (i * e + o) / e = (k * e + j) / e := by rw [h9]
              rw [Nat.mul_comm i e, Nat.mul_comm k e, Nat.mul_add_div (by omega), Nat.mul_add_div (by omega), Nat.div_eq_of_lt hjl, Nat.div_eq_of_lt ho] at e2
              omega
            exact ⟨u, by rw [List.getElem?_set_ne hne]; exact hu, hp.mono fun b' hb' => hG _ _ (hcomb _ hb')⟩
end
end Go.Vl

/- The facts on the types of this translation that the rules ask for. -/
namespace Go.Vl
set_option linter.unusedVariables false
set_option linter.unusedSimpArgs false
open Go.Proofs
noncomputable def ti3 : TypeInfo := (Try.prog.info? 3).getD default
theorem inf3 : Try.prog.info? 3 = some ti3 := by kernel_rfl
theorem sz3 : ti3.size = 1 := by kernel_rfl
theorem by3 : ti3.bytes = 8 := by kernel_rfl
noncomputable def ti4 : TypeInfo := (Try.prog.info? 4).getD default
noncomputable def ti5 : TypeInfo := (Try.prog.info? 5).getD default
theorem inf5 : Try.prog.info? 5 = some ti5 := by kernel_rfl
theorem sz5 : ti5.size = 1 := by kernel_rfl
theorem by5 : ti5.bytes = 1 := by kernel_rfl
noncomputable def ti22 : TypeInfo := (Try.prog.info? 22).getD default
theorem inf22 : Try.prog.info? 22 = some ti22 := by kernel_rfl
theorem sz22 : ti22.size = 1 := by kernel_rfl
noncomputable def ti23 : TypeInfo := (Try.prog.info? 23).getD default
noncomputable def ti25 : TypeInfo := (Try.prog.info? 25).getD default
noncomputable def ti28 : TypeInfo := (Try.prog.info? 28).getD default
theorem inf28 : Try.prog.info? 28 = some ti28 := by kernel_rfl
theorem sz28 : ti28.size = 1 := by kernel_rfl
theorem by28 : ti28.bytes = 24 := by kernel_rfl
noncomputable def ti32 : TypeInfo := (Try.prog.info? 32).getD default
noncomputable def ti59 : TypeInfo := (Try.prog.info? 59).getD default
noncomputable def ti60 : TypeInfo := (Try.prog.info? 60).getD default
noncomputable def ti62 : TypeInfo := (Try.prog.info? 62).getD default
noncomputable def ti66 : TypeInfo := (Try.prog.info? 66).getD default
noncomputable def ti67 : TypeInfo := (Try.prog.info? 67).getD default
noncomputable def ti69 : TypeInfo := (Try.prog.info? 69).getD default
noncomputable def ti92 : TypeInfo := (Try.prog.info? 92).getD default
theorem inf92 : Try.prog.info? 92 = some ti92 := by kernel_rfl
theorem sz92 : ti92.size = 2 := by kernel_rfl
theorem by92 : ti92.bytes = 16 := by kernel_rfl
noncomputable def ti94 : TypeInfo := (Try.prog.info? 94).getD default
noncomputable def ti99 : TypeInfo := (Try.prog.info? 99).getD default
noncomputable def ti101 : TypeInfo := (Try.prog.info? 101).getD default
noncomputable def ti118 : TypeInfo := (Try.prog.info? 118).getD default
noncomputable def ti130 : TypeInfo := (Try.prog.info? 130).getD default
noncomputable def ti132 : TypeInfo := (Try.prog.info? 132).getD default
noncomputable def ti134 : TypeInfo := (Try.prog.info? 134).getD default
noncomputable def ti136 : TypeInfo := (Try.prog.info? 136).getD default
noncomputable def ti138 : TypeInfo := (Try.prog.info? 138).getD default
noncomputable def ti144 : TypeInfo := (Try.prog.info? 144).getD default
noncomputable def ti146 : TypeInfo := (Try.prog.info? 146).getD default
noncomputable def ti148 : TypeInfo := (Try.prog.info? 148).getD default
noncomputable def ti149 : TypeInfo := (Try.prog.info? 149).getD default
noncomputable def ti151 : TypeInfo := (Try.prog.info? 151).getD default
noncomputable def ti152 : TypeInfo := (Try.prog.info? 152).getD default
noncomputable def ti173 : TypeInfo := (Try.prog.info? 173).getD default
noncomputable def ti175 : TypeInfo := (Try.prog.info? 175).getD default
noncomputable def ti190 : TypeInfo := (Try.prog.info? 190).getD default
noncomputable def ti217 : TypeInfo := (Try.prog.info? 217).getD default
theorem E22 : ElInfo Try.prog 22 5 1 1 (.int .u8 0) :=
  ⟨Try.underlying22, ⟨ti5, (.int .u8 0), inf5, sz5, by5, by kernel_rfl, by kernel_rfl, fun _ _ => .int _ _⟩, fits_of rfl, by decide⟩
theorem E23 : ElInfo Try.prog 23 28 1 24 (.sl (some true) 1 []) :=
  ⟨Try.underlying23, ⟨ti28, (.slice none 0 0), inf28, sz28, by28, by kernel_rfl, by kernel_rfl, fun _ _ => .nilsl _ _ (by decide)⟩, fits_of rfl, by decide⟩
theorem E28 : ElInfo Try.prog 28 3 1 8 (.int .i64 0) :=
  ⟨Try.underlying28, ⟨ti3, (.int .i64 0), inf3, sz3, by3, by kernel_rfl, by kernel_rfl, fun _ _ => .int _ _⟩, fits_of rfl, by decide⟩
theorem Z92 : StZ Try.prog 92 [(.int .i64 0), (.int .i64 0)] := by
  refine ⟨⟨_, Try.underlying92⟩, ti92, #[(.int .i64 0), (.int .i64 0)], inf92, sz92, by kernel_rfl, fun w G => .agg _ _ rfl ?_ ?_⟩
  · intro j c h
    match j, h with
    | 0, h => cases h; rfl
    | 1, h => cases h; rfl
  · intro j c u h hu
    match j, h, hu with
    | 0, h, hu => cases h; cases hu; exact .int _ _
    | 1, h, hu => cases h; cases hu; exact .int _ _
theorem E47 : ElInfo Try.prog 47 92 2 16 (.agg [(.int .i64 0), (.int .i64 0)]) := .of_struct Try.underlying47 Z92 (fun i h => by rw [inf92] at h; rw [← Option.some.inj h]; exact by92) (List.cons_ne_nil _ _)
theorem S92 : StInfo Try.prog 92 [(0, 1), (1, 1)] [(.int .i64 0), (.int .i64 0)] := by
  refine ⟨⟨_, Try.underlying92⟩, #[(.int .i64 0), (.int .i64 0)], fun l => by kernel_rfl, fun w G => .agg _ _ rfl ?_ ?_⟩
  · intro j c h
    match j, h with
    | 0, h => cases h; rfl
    | 1, h => cases h; rfl
  · intro j c u h hu
    match j, h, hu with
    | 0, h, hu => cases h; cases hu; exact .int _ _
    | 1, h, hu => cases h; cases hu; exact .int _ _
theorem S118 : StInfo Try.prog 118 [(0, 1), (1, 1)] [(.sl none 1 []), (.int .i64 0)] := by
  refine ⟨⟨_, Try.underlying118⟩, #[(.slice none 0 0), (.int .i64 0)], fun l => by kernel_rfl, fun w G => .agg _ _ rfl ?_ ?_⟩
  · intro j c h
    match j, h with
    | 0, h => cases h; rfl
    | 1, h => cases h; rfl
  · intro j c u h hu
    match j, h, hu with
    | 0, h, hu => cases h; cases hu; exact .nilsl _ _ (by decide)
    | 1, h, hu => cases h; cases hu; exact .int _ _
end Go.Vl

namespace Go.Vl
set_option linter.unusedVariables false
set_option linter.unusedSimpArgs false
open Go.Proofs
def findM (n : Int) : List Int → Int → Int
  | [], _ => -1
  | x :: xs, i => if x = n then i else findM n xs (i+1)

theorem findM_drop (n : Int) (l : List Int) (k : Nat) (h : k < l.length) : findM n (l.drop k) k = if l.getD k 0 = n then (k : Int) else findM n (l.drop (k+1)) (k+1) := by
  rw [List.drop_eq_getElem_cons h]
  simp [findM, List.getD, List.getElem?_eq_getElem h]

theorem findM_mem (n : Int) : ∀ (l : List Int) (k : Int), 0 ≤ k → (0 ≤ findM n l k ↔ n ∈ l)
  | [], k, _ => by simp [findM]
  | x :: xs, k, h => by
    by_cases hx : x = n
    · simp [findM, hx, h]
    · have := findM_mem n xs (k+1) (by omega)
      simp [findM, hx, Ne.symm hx, this]

theorem findM_not (n : Int) (l : List Int) (k : Int) (h : 0 ≤ k) : findM n l k < 0 ↔ n ∉ l := by
  rw [← findM_mem n l k h]; omega

theorem nodup_take_succ {α : Type} {l : List α} {k : Nat} (h : k < l.length) (d : α) : (l.take (k+1)).Nodup ↔ (l.take k).Nodup ∧ l.getD k d ∉ l.take k := by
  rw [List.take_succ_eq_append_getElem h, List.nodup_append]
  simp [List.getD, List.getElem?_eq_getElem h]
  intro _
  exact ⟨fun h1 h2 => h1 _ h2 rfl, fun h1 a ha e => h1 (e ▸ ha)⟩

theorem nodup_take {α : Type} {l : List α} (k : Nat) (h : l.Nodup) : (l.take k).Nodup := (List.take_sublist k l).nodup h

theorem all_take_succ {α : Type} {p : α → Prop} {l : List α} {k : Nat} (h : k < l.length) (d : α) : (∀ x ∈ l.take (k+1), p x) ↔ (∀ x ∈ l.take k, p x) ∧ p (l.getD k d) := by
  rw [List.take_succ_eq_append_getElem h]
  simp only [List.mem_append, List.mem_singleton, or_imp, forall_and, forall_eq, List.getD, List.getElem?_eq_getElem h, Option.getD_some]

theorem getD_mem {α : Type} {l : List α} {k : Nat} (h : k < l.length) (d : α) : l.getD k d ∈ l := by
  simp [List.getD, List.getElem?_eq_getElem h]

theorem take_all {α : Type} {l : List α} {k : Nat} (h : l.length ≤ k) : l.take k = l := List.take_of_length_le h
theorem bT {P : Prop} [Decidable P] (h : P) : true = decide P := (decide_eq_true h).symm
theorem bF {P : Prop} [Decidable P] (h : ¬ P) : false = decide P := (decide_eq_false h).symm
theorem lens {b : List (List Int)} {N : Nat} (h : ∀ l ∈ b, l.length < N) (k : Nat) (hN : 0 < N) : (b.getD k []).length < N := by
  by_cases hk : k < b.length
  · exact h _ (getD_mem hk [])
  · simp [List.getD, List.getElem?_eq_none (by omega : b.length ≤ k), hN]
/-- What can be the bases of a class. -/
def CB (l : List Int) (c : Int) : Prop := l ≠ [] ∧ l.length ≤ 4 ∧ l.Nodup ∧ ∀ x ∈ l, 0 ≤ x ∧ x ≤ c - 1
instance {l : List Int} {c : Int} : Decidable (CB l c) := by unfold CB; infer_instance
/-- Bases that are valid. -/
def VB (b : List (List Int)) : Prop := 1 ≤ b.length ∧ b.length ≤ 12 ∧ b.getD 0 [] = [] ∧ ∀ i, i < b.length → 0 < i → CB (b.getD i []) i
instance {b : List (List Int)} : Decidable (VB b) := by unfold VB; infer_instance
def RB0 (l : List Int) (i : Nat) : Prop := (l.length = 0 ↔ i = 0) ∧ l.length ≤ 4 ∧ l.Nodup ∧ ∀ x ∈ l, 0 ≤ x ∧ x ≤ (i : Int) - 1
theorem vb_iff (b : List (List Int)) : VB b ↔ (1 ≤ b.length ∧ b.length ≤ 12) ∧ ∀ i, i < b.length → RB0 (b.getD i []) i := by
  constructor
  · rintro ⟨h1, h2, h3, h4⟩
    refine ⟨⟨h1, h2⟩, fun i hi => ?_⟩
    rcases Nat.eq_zero_or_pos i with rfl | h0
    · rw [h3]; simp [RB0]
    · obtain ⟨c1, c2, c3, c4⟩ := h4 i hi h0
      exact ⟨⟨fun e => absurd (List.length_eq_zero_iff.1 e) c1, fun e => by omega⟩, c2, c3, c4⟩
  · rintro ⟨⟨h1, h2⟩, h⟩
    refine ⟨h1, h2, List.length_eq_zero_iff.1 ((h 0 (by omega)).1.2 rfl), fun i hi h0 => ?_⟩
    obtain ⟨c1, c2, c3, c4⟩ := h i hi
    exact ⟨fun e => by rw [e] at c1; simp at c1; omega, c2, c3, c4⟩
/-- Lists that can be merged or kept. -/
def OKL (l : List Int) (m : Int) : Prop := (l.length : Int) ≤ m ∧ l.Nodup
instance {l : List Int} {c : Int} : Decidable (OKL l c) := by unfold OKL; infer_instance
/-- Slots that are valid. -/
def VS (b s : List (List Int)) : Prop := VB b ∧ s.length = b.length ∧ s.getD 0 [] = [] ∧ ∀ l ∈ s, OKL l 4 ∧ ∀ x ∈ l, 0 ≤ x ∧ x ≤ 9
instance {b s : List (List Int)} : Decidable (VS b s) := by unfold VS; infer_instance

theorem placeIn_sat {nl0 : Option Bool} {list : List Int} {n : Int} (hlist : list.length < 1000000000)  : SatAt Try.prog 111 [.pv false (.sl nl0 1 (list.map intP)), i64 n] [] (fun res rows => res = [i64 (findM n list 0)] ∧ rows = []) := by
 refine sat_entry (ts := [4]) Try.func111 rfl rfl (by decide) (Nat.le_of_ble_eq_true rfl) fun C hC => ?_
 rw [Try.ntmps111]
 replace hC : C.nb = 0 := hC
 refine vc_seq fun K1 hK1 => ?_
 refine vc_region ?_
 refine vo_assign_pv rfl rfl ?_
 refine vo_nil ?_
 refine hK1 _ ?_
 refine vc_seq fun K2 hK2 => ?_
 refine vc_seq fun K3 hK3 => ?_
 refine vc_region ?_
 refine vo_assign_pv rfl rfl ?_
 refine vo_nil ?_
 refine hK3 _ ?_
 refine vc_block ?_
 refine vc_stN ?_
 refine vc_loopF [0, 1] [5] [.pv false (.sl nl0 1 (list.map intP)), i64 n] _ (fun mz vs => ∃ (k : Nat), mz = list.length - k ∧ (k ≤ list.length) ∧ (findM n list 0 = findM n (list.drop k) k) ∧ vs = [i64 k]) (list.length) rfl rfl (le_len hC rfl) ⟨rfl, rfl, rfl⟩ ⟨0, rfl, Nat.zero_le _, rfl, rfl⟩ ?_
 rintro mz vs - ⟨k, rfl, hk, hf, rfl⟩
 refine vc_stN ?_
 refine vc_seq fun K4 hK4 => ?_
 refine vc_seq fun K5 hK5 => ?_
 refine vc_region ?_
 refine vo_move_pv rfl rfl ?_
 refine vo_move_pv rfl rfl ?_
 refine vo_len_pv rfl rfl Try.underlying28 ?_
 refine vo_binI rfl rfl rfl rfl trivial ?_
 refine vo_nil ?_
 refine hK5 _ ?_
 refine vc_cond rfl (fun hc1 => ?_) (fun hc1 => ?_)
 ·try simp only [zq0, zq1, zq2, zq3, zq4, zq5, zq6, zq7, zq8, zq9, zqa, zqb, zqc, zqd, zqe, zqf] at hc1
  refine vc_skip ?_
  refine hK4 _ ?_
  refine vc_seq fun K6 hK6 => ?_
  refine vc_block ?_
  refine vc_seq fun K7 hK7 => ?_
  refine vc_region ?_
  refine vo_move_pv rfl rfl ?_
  refine vo_move_pv rfl rfl ?_
  refine vo_index_pv (.int .i64 0) rfl rfl rfl E28.und inf3 sz3 sd sd ?_
  simp only [Int.toNat_natCast, Int.toNat_zero, getD_ints, getD_intss, getD_bools, getD_bytes, PV.cells]
  refine vo_load_adr rfl rfl Try.underlying3 rfl ?_
  refine vo_move_pv rfl rfl ?_
  refine vo_binI rfl rfl rfl rfl trivial ?_
  refine vo_nil ?_
  refine hK7 _ ?_
  refine vc_cond rfl (fun hc2 => ?_) (fun hc2 => ?_)
  ·try simp only [zq0, zq1, zq2, zq3, zq4, zq5, zq6, zq7, zq8, zq9, zqa, zqb, zqc, zqd, zqe, zqf] at hc2
   refine vc_seq fun K8 hK8 => ?_
   refine vc_region ?_
   refine vo_move_pv rfl rfl ?_
   refine vo_assign_pv rfl rfl ?_
   refine vo_nil ?_
   refine hK8 _ ?_
   refine vc_ret ?_
   change retPv _ _ _ _ _
   refine retPv_mk rfl rfl rfl ⟨?_, rfl⟩
   refine (congrArg (fun b => [i64 b]) (?_ : _ = _) : [i64 _] = [i64 _])
   rw [hf, findM_drop _ _ _ (by omega), if_pos (by omega)]
  ·try simp only [zq0, zq1, zq2, zq3, zq4, zq5, zq6, zq7, zq8, zq9, zqa, zqb, zqc, zqd, zqe, zqf] at hc2
   refine vc_skip ?_
   refine hK6 _ ?_
   refine vc_region ?_
   refine vo_move_pv rfl rfl ?_
   refine vo_binI rfl rfl rfl rfl sd ?_
   refine vo_assign_pv rfl rfl ?_
   refine vo_nil ?_
   change againF _ _ _ _ _ _ _ _ _
   refine againF_mk rfl rfl rfl rfl rfl rfl ⟨_, ?_, k + 1, rfl, ?_, ?_, rfl⟩
   ·omega
   ·omega
   ·rw [hf, findM_drop _ _ _ (by omega), if_neg (by omega)]; rfl
 ·try simp only [zq0, zq1, zq2, zq3, zq4, zq5, zq6, zq7, zq8, zq9, zqa, zqb, zqc, zqd, zqe, zqf] at hc1
  refine vc_exit ?_
  refine hK2 _ ?_
  refine vc_seq fun K9 hK9 => ?_
  refine vc_region ?_
  refine vo_assign_pv rfl rfl ?_
  refine vo_nil ?_
  refine hK9 _ ?_
  refine vc_ret ?_
  change retPv _ _ _ _ _
  refine retPv_mk rfl rfl rfl ⟨?_, rfl⟩
  refine (congrArg (fun b => [i64 b]) (?_ : _ = _) : [i64 _] = [i64 _])
  rw [hf, show k = list.length by omega, List.drop_length]; rfl


theorem different_sat {nl0 : Option Bool} {list : List Int} (hlist : list.length < 1000000000)  : SatAt Try.prog 104 [.pv false (.sl nl0 1 (list.map intP))] [] (fun res rows => res = [bo (decide (list.Nodup))] ∧ rows = []) := by
 refine sat_entry (ts := [2]) Try.func104 rfl rfl (by decide) (Nat.le_of_ble_eq_true rfl) fun C hC => ?_
 rw [Try.ntmps104]
 replace hC : C.nb = 0 := hC
 refine vc_seq fun K1 hK1 => ?_
 refine vc_region ?_
 refine vo_assign_pv rfl rfl ?_
 refine vo_nil ?_
 refine hK1 _ ?_
 refine vc_seq fun K2 hK2 => ?_
 refine vc_seq fun K3 hK3 => ?_
 refine vc_region ?_
 refine vo_assign_pv rfl rfl ?_
 refine vo_nil ?_
 refine hK3 _ ?_
 refine vc_block ?_
 refine vc_stN ?_
 refine vc_loopF [0] [3] [.pv false (.sl nl0 1 (list.map intP))] _ (fun mz vs => ∃ (k : Nat), mz = list.length - k ∧ (k ≤ list.length) ∧ ((list.take k).Nodup) ∧ vs = [i64 k]) (list.length) rfl rfl (le_len hC rfl) ⟨rfl, rfl, rfl⟩ ⟨0, rfl, Nat.zero_le _, List.nodup_nil, rfl⟩ ?_
 rintro mz vs - ⟨k, rfl, hk, hf, rfl⟩
 refine vc_stN ?_
 refine vc_seq fun K4 hK4 => ?_
 refine vc_seq fun K5 hK5 => ?_
 refine vc_region ?_
 refine vo_move_pv rfl rfl ?_
 refine vo_move_pv rfl rfl ?_
 refine vo_len_pv rfl rfl Try.underlying28 ?_
 refine vo_binI rfl rfl rfl rfl trivial ?_
 refine vo_nil ?_
 refine hK5 _ ?_
 refine vc_cond rfl (fun hc1 => ?_) (fun hc1 => ?_)
 ·try simp only [zq0, zq1, zq2, zq3, zq4, zq5, zq6, zq7, zq8, zq9, zqa, zqb, zqc, zqd, zqe, zqf] at hc1
  refine vc_skip ?_
  refine hK4 _ ?_
  refine vc_seq fun K6 hK6 => ?_
  refine vc_block ?_
  refine vc_seq fun K7 hK7 => ?_
  refine vc_draw (by kernel_rfl) ?_
  change VD _ _ _ 9 _ _ _
  refine vd_light 0 rfl rfl rfl (by kernel_rfl) (by kernel_rfl) (by kernel_rfl) (wnt_none rfl) (lt_move_pv rfl) ?_
  refine vd_light 1 rfl rfl rfl (by kernel_rfl) (by kernel_rfl) (by kernel_rfl) (wnt_none rfl) (lt_move_pv rfl) ?_
  refine vd_light 2 rfl rfl rfl (by kernel_rfl) (by kernel_rfl) (by kernel_rfl) (wnt_none rfl) (lt_slice_pv rfl rfl rfl E28.und inf3 sz3 sd sd sd) ?_
  simp only [Int.toNat_natCast, Int.toNat_zero, List.drop_zero, Nat.sub_zero, ← List.map_drop, ← List.map_take]
  refine vd_light 3 rfl rfl rfl (by kernel_rfl) (by kernel_rfl) (by kernel_rfl) (wnt_none rfl) (lt_move_pv rfl) ?_
  refine vd_light 4 rfl rfl rfl (by kernel_rfl) (by kernel_rfl) (by kernel_rfl) (wnt_none rfl) (lt_move_pv rfl) ?_
  refine vd_light 5 rfl rfl rfl (by kernel_rfl) (by kernel_rfl) (by kernel_rfl) (wnt_none rfl) (lt_index_pv (.int .i64 0) rfl rfl E28.und inf3 sz3 sd sd) ?_
  simp only [Int.toNat_natCast, Int.toNat_zero, getD_ints, getD_intss, getD_bools, getD_bytes, PV.cells]
  refine vd_light 6 rfl rfl rfl (by kernel_rfl) (by kernel_rfl) (by kernel_rfl) (wnt_none rfl) (lt_load_adr rfl Try.underlying3 rfl) ?_
  refine vd_call 7 rfl (by kernel_rfl) (wnt_none rfl) Try.func111 rfl rfl rfl rfl (placeIn_sat (by simp; omega)) ?_
  rintro _ _ ⟨rfl, rfl⟩
  refine ⟨rfl, rfl, .inl rfl, ?_⟩
  refine vd_light 8 rfl rfl rfl (by kernel_rfl) (by kernel_rfl) (by kernel_rfl) (wnt_none rfl) (lt_binI rfl rfl rfl trivial) ?_
  refine vd_nil (by kernel_rfl) ?_
  refine hK7 _ ?_
  refine vc_cond rfl (fun hc2 => ?_) (fun hc2 => ?_)
  ·try simp only [zq0, zq1, zq2, zq3, zq4, zq5, zq6, zq7, zq8, zq9, zqa, zqb, zqc, zqd, zqe, zqf] at hc2
   refine vc_seq fun K8 hK8 => ?_
   refine vc_region ?_
   refine vo_assign_pv rfl rfl ?_
   refine vo_nil ?_
   refine hK8 _ ?_
   refine vc_ret ?_
   change retPv _ _ _ _ _
   refine retPv_mk rfl rfl rfl ⟨?_, rfl⟩
   refine (congrArg (fun b => [bo b]) (?_ : _ = _) : [bo _] = [bo _])
   exact bF fun h => ((nodup_take_succ (by omega) 0).1 (nodup_take (k+1) h)).2 ((findM_mem _ _ _ (by omega)).1 hc2)
  ·try simp only [zq0, zq1, zq2, zq3, zq4, zq5, zq6, zq7, zq8, zq9, zqa, zqb, zqc, zqd, zqe, zqf] at hc2
   refine vc_skip ?_
   refine hK6 _ ?_
   refine vc_region ?_
   refine vo_move_pv rfl rfl ?_
   refine vo_binI rfl rfl rfl rfl sd ?_
   refine vo_assign_pv rfl rfl ?_
   refine vo_nil ?_
   change againF _ _ _ _ _ _ _ _ _
   refine againF_mk rfl rfl rfl rfl rfl rfl ⟨_, ?_, k + 1, rfl, ?_, ?_, rfl⟩
   ·omega
   ·omega
   ·exact (nodup_take_succ (by omega) 0).2 ⟨hf, (findM_not _ _ _ (by omega)).1 hc2⟩
 ·try simp only [zq0, zq1, zq2, zq3, zq4, zq5, zq6, zq7, zq8, zq9, zqa, zqb, zqc, zqd, zqe, zqf] at hc1
  refine vc_exit ?_
  refine hK2 _ ?_
  refine vc_seq fun K9 hK9 => ?_
  refine vc_region ?_
  refine vo_assign_pv rfl rfl ?_
  refine vo_nil ?_
  refine hK9 _ ?_
  refine vc_ret ?_
  change retPv _ _ _ _ _
  refine retPv_mk rfl rfl rfl ⟨?_, rfl⟩
  refine (congrArg (fun b => [bo b]) (?_ : _ = _) : [bo _] = [bo _])
  rw [take_all (by omega)] at hf; exact bT hf


theorem inRange_sat {n : Int} {low : Int} {high : Int}   : SatAt Try.prog 64 [i64 n, i64 low, i64 high] [] (fun res rows => res = [bo (decide (low ≤ n ∧ n ≤ high))] ∧ rows = []) := by
 refine sat_entry (ts := [6]) Try.func64 rfl rfl (by decide) (Nat.le_of_ble_eq_true rfl) fun C hC => ?_
 rw [Try.ntmps64]
 replace hC : C.nb = 0 := hC
 refine vc_seq fun K1 hK1 => ?_
 refine vc_region ?_
 refine vo_assign_pv rfl rfl ?_
 refine vo_nil ?_
 refine hK1 _ ?_
 refine vc_seq fun K2 hK2 => ?_
 refine vc_region ?_
 refine vo_move_pv rfl rfl ?_
 refine vo_move_pv rfl rfl ?_
 refine vo_binI rfl rfl rfl rfl trivial ?_
 refine vo_move_pv rfl rfl ?_
 refine vo_split 10 rfl (fun hg1 => ?_) (fun hg1 => ?_)
 ·try simp only [zq0, zq1, zq2, zq3, zq4, zq5, zq6, zq7, zq8, zq9, zqa, zqb, zqc, zqd, zqe, zqf] at hg1
  refine vo_guard_on rfl rfl rfl ?_
  refine vo_move_pv rfl rfl ?_
  refine vo_guard_on rfl rfl rfl ?_
  refine vo_move_pv rfl rfl ?_
  refine vo_guard_on rfl rfl rfl ?_
  refine vo_binI rfl rfl rfl rfl trivial ?_
  refine vo_pick_t rfl rfl ?_
  refine vo_assign_pv rfl rfl ?_
  refine vo_nil ?_
  refine hK2 _ ?_
  refine vc_ret ?_
  change retPv _ _ _ _ _
  refine retPv_mk rfl rfl rfl ⟨?_, rfl⟩
  refine (congrArg (fun b => [bo b]) (?_ : _ = _) : [bo _] = [bo _])
  simp_all <;> omega
 ·try simp only [zq0, zq1, zq2, zq3, zq4, zq5, zq6, zq7, zq8, zq9, zqa, zqb, zqc, zqd, zqe, zqf] at hg1
  refine vo_guard_off rfl rfl rfl rfl rfl ?_
  refine vo_guard_off rfl rfl rfl rfl rfl ?_
  refine vo_guard_off rfl rfl rfl rfl rfl ?_
  refine vo_pick_f rfl rfl ?_
  refine vo_assign_pv rfl rfl ?_
  refine vo_nil ?_
  refine hK2 _ ?_
  refine vc_ret ?_
  change retPv _ _ _ _ _
  refine retPv_mk rfl rfl rfl ⟨?_, rfl⟩
  refine (congrArg (fun b => [bo b]) (?_ : _ = _) : [bo _] = [bo _])
  simp_all <;> omega


theorem allIn_sat {nl0 : Option Bool} {list : List Int} {low : Int} {high : Int} (hlist : list.length < 1000000000)  : SatAt Try.prog 105 [.pv false (.sl nl0 1 (list.map intP)), i64 low, i64 high] [] (fun res rows => res = [bo (decide (∀ x ∈ list, low ≤ x ∧ x ≤ high))] ∧ rows = []) := by
 refine sat_entry (ts := [6]) Try.func105 rfl rfl (by decide) (Nat.le_of_ble_eq_true rfl) fun C hC => ?_
 rw [Try.ntmps105]
 replace hC : C.nb = 0 := hC
 refine vc_seq fun K1 hK1 => ?_
 refine vc_region ?_
 refine vo_assign_pv rfl rfl ?_
 refine vo_nil ?_
 refine hK1 _ ?_
 refine vc_seq fun K2 hK2 => ?_
 refine vc_seq fun K3 hK3 => ?_
 refine vc_region ?_
 refine vo_assign_pv rfl rfl ?_
 refine vo_nil ?_
 refine hK3 _ ?_
 refine vc_block ?_
 refine vc_stN ?_
 refine vc_loopF [0, 1, 2] [7] [.pv false (.sl nl0 1 (list.map intP)), i64 low, i64 high] _ (fun mz vs => ∃ (k : Nat), mz = list.length - k ∧ (k ≤ list.length) ∧ (∀ x ∈ list.take k, low ≤ x ∧ x ≤ high) ∧ vs = [i64 k]) (list.length) rfl rfl (le_len hC rfl) ⟨rfl, rfl, rfl⟩ ⟨0, rfl, Nat.zero_le _, (by simp), rfl⟩ ?_
 rintro mz vs - ⟨k, rfl, hk, hf, rfl⟩
 refine vc_stN ?_
 refine vc_seq fun K4 hK4 => ?_
 refine vc_seq fun K5 hK5 => ?_
 refine vc_region ?_
 refine vo_move_pv rfl rfl ?_
 refine vo_move_pv rfl rfl ?_
 refine vo_len_pv rfl rfl Try.underlying28 ?_
 refine vo_binI rfl rfl rfl rfl trivial ?_
 refine vo_nil ?_
 refine hK5 _ ?_
 refine vc_cond rfl (fun hc1 => ?_) (fun hc1 => ?_)
 ·try simp only [zq0, zq1, zq2, zq3, zq4, zq5, zq6, zq7, zq8, zq9, zqa, zqb, zqc, zqd, zqe, zqf] at hc1
  refine vc_skip ?_
  refine hK4 _ ?_
  refine vc_seq fun K6 hK6 => ?_
  refine vc_block ?_
  refine vc_seq fun K7 hK7 => ?_
  refine vc_region ?_
  refine vo_move_pv rfl rfl ?_
  refine vo_move_pv rfl rfl ?_
  refine vo_index_pv (.int .i64 0) rfl rfl rfl E28.und inf3 sz3 sd sd ?_
  simp only [Int.toNat_natCast, Int.toNat_zero, getD_ints, getD_intss, getD_bools, getD_bytes, PV.cells]
  refine vo_load_adr rfl rfl Try.underlying3 rfl ?_
  refine vo_move_pv rfl rfl ?_
  refine vo_move_pv rfl rfl ?_
  refine vo_call0 Try.func64 rfl rfl rfl rfl inRange_sat ?_
  rintro _ _ ⟨rfl, rfl⟩
  refine ⟨rfl, rfl, .inl rfl, ?_⟩
  refine vo_not rfl rfl ?_
  refine vo_nil ?_
  refine hK7 _ ?_
  refine vc_cond rfl (fun hc2 => ?_) (fun hc2 => ?_)
  ·try simp only [zq0, zq1, zq2, zq3, zq4, zq5, zq6, zq7, zq8, zq9, zqa, zqb, zqc, zqd, zqe, zqf] at hc2
   refine vc_seq fun K8 hK8 => ?_
   refine vc_region ?_
   refine vo_assign_pv rfl rfl ?_
   refine vo_nil ?_
   refine hK8 _ ?_
   refine vc_ret ?_
   change retPv _ _ _ _ _
   refine retPv_mk rfl rfl rfl ⟨?_, rfl⟩
   refine (congrArg (fun b => [bo b]) (?_ : _ = _) : [bo _] = [bo _])
   refine bF fun h => ?_
   have h1 := h _ (getD_mem (show k < list.length by omega) 0)
   simp_all
  ·try simp only [zq0, zq1, zq2, zq3, zq4, zq5, zq6, zq7, zq8, zq9, zqa, zqb, zqc, zqd, zqe, zqf] at hc2
   refine vc_skip ?_
   refine hK6 _ ?_
   refine vc_region ?_
   refine vo_move_pv rfl rfl ?_
   refine vo_binI rfl rfl rfl rfl sd ?_
   refine vo_assign_pv rfl rfl ?_
   refine vo_nil ?_
   change againF _ _ _ _ _ _ _ _ _
   refine againF_mk rfl rfl rfl rfl rfl rfl ⟨_, ?_, k + 1, rfl, ?_, ?_, rfl⟩
   ·omega
   ·omega
   ·exact (all_take_succ (by omega) 0).2 ⟨hf, by simpa using hc2⟩
 ·try simp only [zq0, zq1, zq2, zq3, zq4, zq5, zq6, zq7, zq8, zq9, zqa, zqb, zqc, zqd, zqe, zqf] at hc1
  refine vc_exit ?_
  refine hK2 _ ?_
  refine vc_seq fun K9 hK9 => ?_
  refine vc_region ?_
  refine vo_assign_pv rfl rfl ?_
  refine vo_nil ?_
  refine hK9 _ ?_
  refine vc_ret ?_
  change retPv _ _ _ _ _
  refine retPv_mk rfl rfl rfl ⟨?_, rfl⟩
  refine (congrArg (fun b => [bo b]) (?_ : _ = _) : [bo _] = [bo _])
  rw [take_all (by omega)] at hf; exact bT hf


theorem specValidBases0_sat {nl0 : Option Bool} {bases : List (List Int)} (hbases : bases.length < 1000000000) (hlbases : ∀ l ∈ bases, l.length < 1000000000)  : SatAt Try.prog 101 [.pv false (.sl nl0 1 (bases.map ints))] [] (fun res rows => res = [bo (decide (VB bases))] ∧ rows = []) := by
 refine sat_entry (ts := [2]) Try.func101 rfl rfl (by decide) (Nat.le_of_ble_eq_true rfl) fun C hC => ?_
 rw [Try.ntmps101]
 replace hC : C.nb = 0 := hC
 refine vc_seq fun K1 hK1 => ?_
 refine vc_region ?_
 refine vo_assign_pv rfl rfl ?_
 refine vo_nil ?_
 refine hK1 _ ?_
 refine vc_seq fun K2 hK2 => ?_
 refine vc_seq fun K3 hK3 => ?_
 refine vc_region ?_
 refine vo_assign_pv rfl rfl ?_
 refine vo_nil ?_
 refine hK3 _ ?_
 refine vc_block ?_
 refine vc_stN ?_
 refine vc_loopF [0] [3] [.pv false (.sl nl0 1 (bases.map ints))] _ (fun mz vs => ∃ (k : Nat), mz = bases.length - k ∧ (k ≤ bases.length) ∧ (∀ i, i < k → RB0 (bases.getD i []) i) ∧ vs = [i64 k]) (bases.length) rfl rfl (le_len hC rfl) ⟨rfl, rfl, rfl⟩ ⟨0, rfl, Nat.zero_le _, (fun i h1 => by omega), rfl⟩ ?_
 rintro mz vs - ⟨k, rfl, hk, hf, rfl⟩
 refine vc_stN ?_
 refine vc_seq fun K4 hK4 => ?_
 refine vc_seq fun K5 hK5 => ?_
 refine vc_region ?_
 refine vo_move_pv rfl rfl ?_
 refine vo_move_pv rfl rfl ?_
 refine vo_len_pv rfl rfl Try.underlying23 ?_
 refine vo_binI rfl rfl rfl rfl trivial ?_
 refine vo_nil ?_
 refine hK5 _ ?_
 refine vc_cond rfl (fun hc1 => ?_) (fun hc1 => ?_)
 ·try simp only [zq0, zq1, zq2, zq3, zq4, zq5, zq6, zq7, zq8, zq9, zqa, zqb, zqc, zqd, zqe, zqf] at hc1
  refine vc_skip ?_
  refine hK4 _ ?_
  refine vc_seq fun K6 hK6 => ?_
  refine vc_block ?_
  refine vc_seq fun K7 hK7 => ?_
  refine vc_region ?_
  refine vo_move_pv rfl rfl ?_
  refine vo_move_pv rfl rfl ?_
  refine vo_index_pv (.sl none 1 []) rfl rfl rfl E23.und inf28 sz28 sd sd ?_
  simp only [Int.toNat_natCast, Int.toNat_zero, getD_ints, getD_intss, getD_bools, getD_bytes, PV.cells]
  refine vo_load_adr rfl rfl Try.underlying28 rfl ?_
  refine vo_len_pv rfl rfl Try.underlying28 ?_
  refine vo_binI rfl rfl rfl rfl trivial ?_
  refine vo_move_pv rfl rfl ?_
  refine vo_binI rfl rfl rfl rfl trivial ?_
  refine vo_binB rfl rfl rfl rfl Try.underlying4 ?_
  refine vo_move_pv rfl rfl ?_
  refine vo_split 19 rfl (fun hg2 => ?_) (fun hg2 => ?_)
  ·try simp only [zq0, zq1, zq2, zq3, zq4, zq5, zq6, zq7, zq8, zq9, zqa, zqb, zqc, zqd, zqe, zqf] at hg2
   rw [Bool.eq_iff_iff, beq_iff_eq, beq_iff_eq] at hg2
   refine vo_guard_off rfl rfl rfl rfl rfl ?_
   refine vo_guard_off rfl rfl rfl rfl rfl ?_
   refine vo_guard_off rfl rfl rfl rfl rfl ?_
   refine vo_guard_off rfl rfl rfl rfl rfl ?_
   refine vo_guard_off rfl rfl rfl rfl rfl ?_
   refine vo_guard_off rfl rfl rfl rfl rfl ?_
   refine vo_pick_t rfl rfl ?_
   refine vo_move_pv rfl rfl ?_
   refine vo_guard_off rfl rfl rfl rfl rfl ?_
   refine vo_guard_off rfl rfl rfl rfl rfl ?_
   refine vo_guard_off rfl rfl rfl rfl rfl ?_
   refine vo_guard_off rfl rfl rfl rfl rfl ?_
   refine vo_guard_off rfl rfl rfl rfl rfl ?_
   refine vo_guard_off rfl rfl rfl rfl rfl ?_
   refine vo_pick_t rfl rfl ?_
   refine vo_move_pv rfl rfl ?_
   refine vo_guard_off rfl rfl rfl rfl rfl ?_
   refine vo_guard_off rfl rfl rfl rfl rfl ?_
   refine vo_guard_off rfl rfl rfl rfl rfl ?_
   refine vo_guard_off rfl rfl rfl rfl rfl ?_
   refine vo_guard_off rfl rfl rfl rfl rfl ?_
   refine vo_guard_off rfl rfl rfl rfl rfl ?_
   refine vo_guard_off rfl rfl rfl rfl rfl ?_
   refine vo_guard_off rfl rfl rfl rfl rfl ?_
   refine vo_pick_t rfl rfl ?_
   refine vo_nil ?_
   refine hK7 _ ?_
   refine vc_cond_t rfl ?_
   refine vc_seq fun K8 hK8 => ?_
   refine vc_region ?_
   refine vo_assign_pv rfl rfl ?_
   refine vo_nil ?_
   refine hK8 _ ?_
   refine vc_ret ?_
   change retPv _ _ _ _ _
   refine retPv_mk rfl rfl rfl ⟨?_, rfl⟩
   refine (congrArg (fun b => [bo b]) (?_ : _ = _) : [bo _] = [bo _])
   exact bF fun h => by have := (((vb_iff _).1 h).2 k (by omega)).1; omega
  ·try simp only [zq0, zq1, zq2, zq3, zq4, zq5, zq6, zq7, zq8, zq9, zqa, zqb, zqc, zqd, zqe, zqf] at hg2
   rw [Bool.eq_iff_iff, beq_iff_eq, beq_iff_eq] at hg2
   refine vo_guard_on rfl rfl rfl ?_
   refine vo_move_pv rfl rfl ?_
   refine vo_guard_on rfl rfl rfl ?_
   refine vo_move_pv rfl rfl ?_
   refine vo_guard_on rfl rfl rfl ?_
   refine vo_index_pv (.sl none 1 []) rfl rfl rfl E23.und inf28 sz28 sd sd ?_
   simp only [Int.toNat_natCast, Int.toNat_zero, getD_ints, getD_intss, getD_bools, getD_bytes, PV.cells]
   refine vo_guard_on rfl rfl rfl ?_
   refine vo_load_adr rfl rfl Try.underlying28 rfl ?_
   refine vo_guard_on rfl rfl rfl ?_
   refine vo_len_pv rfl rfl Try.underlying28 ?_
   refine vo_guard_on rfl rfl rfl ?_
   refine vo_binI rfl rfl rfl rfl trivial ?_
   refine vo_pick_f rfl rfl ?_
   refine vo_move_pv rfl rfl ?_
   refine vo_split 27 rfl (fun hg3 => ?_) (fun hg3 => ?_)
   ·try simp only [zq0, zq1, zq2, zq3, zq4, zq5, zq6, zq7, zq8, zq9, zqa, zqb, zqc, zqd, zqe, zqf] at hg3
    refine vo_guard_off rfl rfl rfl rfl rfl ?_
    refine vo_guard_off rfl rfl rfl rfl rfl ?_
    refine vo_guard_off rfl rfl rfl rfl rfl ?_
    refine vo_guard_off rfl rfl rfl rfl rfl ?_
    refine vo_guard_off rfl rfl rfl rfl rfl ?_
    refine vo_guard_off rfl rfl rfl rfl rfl ?_
    refine vo_pick_t rfl rfl ?_
    refine vo_move_pv rfl rfl ?_
    refine vo_guard_off rfl rfl rfl rfl rfl ?_
    refine vo_guard_off rfl rfl rfl rfl rfl ?_
    refine vo_guard_off rfl rfl rfl rfl rfl ?_
    refine vo_guard_off rfl rfl rfl rfl rfl ?_
    refine vo_guard_off rfl rfl rfl rfl rfl ?_
    refine vo_guard_off rfl rfl rfl rfl rfl ?_
    refine vo_guard_off rfl rfl rfl rfl rfl ?_
    refine vo_guard_off rfl rfl rfl rfl rfl ?_
    refine vo_pick_t rfl rfl ?_
    refine vo_nil ?_
    refine hK7 _ ?_
    refine vc_cond_t rfl ?_
    refine vc_seq fun K9 hK9 => ?_
    refine vc_region ?_
    refine vo_assign_pv rfl rfl ?_
    refine vo_nil ?_
    refine hK9 _ ?_
    refine vc_ret ?_
    change retPv _ _ _ _ _
    refine retPv_mk rfl rfl rfl ⟨?_, rfl⟩
    refine (congrArg (fun b => [bo b]) (?_ : _ = _) : [bo _] = [bo _])
    exact bF fun h => by have := (((vb_iff _).1 h).2 k (by omega)).2.1; omega
   ·try simp only [zq0, zq1, zq2, zq3, zq4, zq5, zq6, zq7, zq8, zq9, zqa, zqb, zqc, zqd, zqe, zqf] at hg3
    refine vo_guard_on rfl rfl rfl ?_
    refine vo_move_pv rfl rfl ?_
    refine vo_guard_on rfl rfl rfl ?_
    refine vo_move_pv rfl rfl ?_
    refine vo_guard_on rfl rfl rfl ?_
    refine vo_index_pv (.sl none 1 []) rfl rfl rfl E23.und inf28 sz28 sd sd ?_
    simp only [Int.toNat_natCast, Int.toNat_zero, getD_ints, getD_intss, getD_bools, getD_bytes, PV.cells]
    refine vo_guard_on rfl rfl rfl ?_
    refine vo_load_adr rfl rfl Try.underlying28 rfl ?_
    refine vo_guard_on rfl rfl rfl ?_
    refine vo_call0 Try.func104 rfl rfl rfl rfl (different_sat (lens hlbases _ (by omega))) ?_
    rintro _ _ ⟨rfl, rfl⟩
    refine ⟨rfl, rfl, .inl rfl, ?_⟩
    refine vo_guard_on rfl rfl rfl ?_
    refine vo_not rfl rfl ?_
    refine vo_pick_f rfl rfl ?_
    refine vo_move_pv rfl rfl ?_
    refine vo_split 35 rfl (fun hg4 => ?_) (fun hg4 => ?_)
    ·try simp only [zq0, zq1, zq2, zq3, zq4, zq5, zq6, zq7, zq8, zq9, zqa, zqb, zqc, zqd, zqe, zqf] at hg4
     refine vo_guard_off rfl rfl rfl rfl rfl ?_
     refine vo_guard_off rfl rfl rfl rfl rfl ?_
     refine vo_guard_off rfl rfl rfl rfl rfl ?_
     refine vo_guard_off rfl rfl rfl rfl rfl ?_
     refine vo_guard_off rfl rfl rfl rfl rfl ?_
     refine vo_guard_off rfl rfl rfl rfl rfl ?_
     refine vo_guard_off rfl rfl rfl rfl rfl ?_
     refine vo_guard_off rfl rfl rfl rfl rfl ?_
     refine vo_pick_t rfl rfl ?_
     refine vo_nil ?_
     refine hK7 _ ?_
     refine vc_cond_t rfl ?_
     refine vc_seq fun K10 hK10 => ?_
     refine vc_region ?_
     refine vo_assign_pv rfl rfl ?_
     refine vo_nil ?_
     refine hK10 _ ?_
     refine vc_ret ?_
     change retPv _ _ _ _ _
     refine retPv_mk rfl rfl rfl ⟨?_, rfl⟩
     refine (congrArg (fun b => [bo b]) (?_ : _ = _) : [bo _] = [bo _])
     exact bF fun h => hg4 (((vb_iff _).1 h).2 k (by omega)).2.2.1
    ·try simp only [zq0, zq1, zq2, zq3, zq4, zq5, zq6, zq7, zq8, zq9, zqa, zqb, zqc, zqd, zqe, zqf] at hg4
     refine vo_guard_on rfl rfl rfl ?_
     refine vo_move_pv rfl rfl ?_
     refine vo_guard_on rfl rfl rfl ?_
     refine vo_move_pv rfl rfl ?_
     refine vo_guard_on rfl rfl rfl ?_
     refine vo_index_pv (.sl none 1 []) rfl rfl rfl E23.und inf28 sz28 sd sd ?_
     simp only [Int.toNat_natCast, Int.toNat_zero, getD_ints, getD_intss, getD_bools, getD_bytes, PV.cells]
     refine vo_guard_on rfl rfl rfl ?_
     refine vo_load_adr rfl rfl Try.underlying28 rfl ?_
     refine vo_guard_on rfl rfl rfl ?_
     refine vo_move_pv rfl rfl ?_
     refine vo_guard_on rfl rfl rfl ?_
     refine vo_binI rfl rfl rfl rfl sd ?_
     refine vo_guard_on rfl rfl rfl ?_
     refine vo_call0 Try.func105 rfl rfl rfl rfl (allIn_sat (lens hlbases _ (by omega))) ?_
     rintro _ _ ⟨rfl, rfl⟩
     refine ⟨rfl, rfl, .inl rfl, ?_⟩
     refine vo_guard_on rfl rfl rfl ?_
     refine vo_not rfl rfl ?_
     refine vo_pick_f rfl rfl ?_
     refine vo_nil ?_
     refine hK7 _ ?_
     refine vc_cond rfl (fun hc5 => ?_) (fun hc5 => ?_)
     ·try simp only [zq0, zq1, zq2, zq3, zq4, zq5, zq6, zq7, zq8, zq9, zqa, zqb, zqc, zqd, zqe, zqf] at hc5
      refine vc_seq fun K11 hK11 => ?_
      refine vc_region ?_
      refine vo_assign_pv rfl rfl ?_
      refine vo_nil ?_
      refine hK11 _ ?_
      refine vc_ret ?_
      change retPv _ _ _ _ _
      refine retPv_mk rfl rfl rfl ⟨?_, rfl⟩
      refine (congrArg (fun b => [bo b]) (?_ : _ = _) : [bo _] = [bo _])
      exact bF fun h => hc5 (((vb_iff _).1 h).2 k (by omega)).2.2.2
     ·try simp only [zq0, zq1, zq2, zq3, zq4, zq5, zq6, zq7, zq8, zq9, zqa, zqb, zqc, zqd, zqe, zqf] at hc5
      refine vc_skip ?_
      refine hK6 _ ?_
      refine vc_region ?_
      refine vo_move_pv rfl rfl ?_
      refine vo_binI rfl rfl rfl rfl sd ?_
      refine vo_assign_pv rfl rfl ?_
      refine vo_nil ?_
      change againF _ _ _ _ _ _ _ _ _
      refine againF_mk rfl rfl rfl rfl rfl rfl ⟨_, ?_, k + 1, rfl, ?_, ?_, rfl⟩
      ·omega
      ·omega
      ·intro i hi; rcases Nat.lt_or_ge i k with h1 | h1; exact hf i h1; rw [show i = k by omega]; exact ⟨by omega, by omega, hg4, hc5⟩
 ·try simp only [zq0, zq1, zq2, zq3, zq4, zq5, zq6, zq7, zq8, zq9, zqa, zqb, zqc, zqd, zqe, zqf] at hc1
  refine vc_exit ?_
  refine hK2 _ ?_
  refine vc_seq fun K12 hK12 => ?_
  refine vc_region ?_
  refine vo_move_pv rfl rfl ?_
  refine vo_len_pv rfl rfl Try.underlying23 ?_
  refine vo_call0 Try.func64 rfl rfl rfl rfl inRange_sat ?_
  rintro _ _ ⟨rfl, rfl⟩
  refine ⟨rfl, rfl, .inl rfl, ?_⟩
  refine vo_assign_pv rfl rfl ?_
  refine vo_nil ?_
  refine hK12 _ ?_
  refine vc_ret ?_
  change retPv _ _ _ _ _
  refine retPv_mk rfl rfl rfl ⟨?_, rfl⟩
  refine (congrArg (fun b => [bo b]) (?_ : _ = _) : [bo _] = [bo _])
  exact decide_eq_decide.2 ⟨fun h => (vb_iff _).2 ⟨by simp at h; omega, fun i hi => hf i (by omega)⟩, fun h => by have := ((vb_iff _).1 h).1; simp; omega⟩


theorem Index_sat {nl0 : Option Bool} {s : List Int} {v : Int} (hs : s.length < 1000000000)  : SatAt Try.prog 134 [.pv false (.sl nl0 1 (s.map intP)), i64 v] [] (fun res rows => res = [i64 (findM v s 0)] ∧ rows = []) := by
 refine sat_entry (ts := [4]) Try.func134 rfl rfl (by decide) (Nat.le_of_ble_eq_true rfl) fun C hC => ?_
 rw [Try.ntmps134]
 replace hC : C.nb = 0 := hC
 refine vc_seq fun K1 hK1 => ?_
 refine vc_region ?_
 refine vo_assign_pv rfl rfl ?_
 refine vo_nil ?_
 refine hK1 _ ?_
 refine vc_seq fun K2 hK2 => ?_
 refine vc_seq fun K3 hK3 => ?_
 refine vc_region ?_
 refine vo_move_pv rfl rfl ?_
 refine vo_len_pv rfl rfl Try.underlying28 ?_
 refine vo_move_pv rfl rfl ?_
 refine vo_nil ?_
 refine hK3 _ ?_
 refine vc_block ?_
 refine vc_stN ?_
 refine vc_loopF [0, 1, 7] [8] [.pv false (.sl nl0 1 (s.map intP)), i64 v, i64 (s.map intP).length] _ (fun mz vs => ∃ (k : Nat), mz = s.length - k ∧ (k ≤ s.length) ∧ (findM v s 0 = findM v (s.drop k) k) ∧ vs = [i64 k]) (s.length) rfl rfl (le_len hC rfl) ⟨rfl, rfl, rfl⟩ ⟨0, rfl, Nat.zero_le _, rfl, rfl⟩ ?_
 rintro mz vs - ⟨k, rfl, hk, hf, rfl⟩
 refine vc_stN ?_
 refine vc_seq fun K4 hK4 => ?_
 refine vc_region ?_
 refine vo_binI rfl rfl rfl rfl trivial ?_
 refine vo_nil ?_
 refine hK4 _ ?_
 refine vc_seq fun K5 hK5 => ?_
 refine vc_cond rfl (fun hc1 => ?_) (fun hc1 => ?_)
 ·try simp only [zq0, zq1, zq2, zq3, zq4, zq5, zq6, zq7, zq8, zq9, zqa, zqb, zqc, zqd, zqe, zqf] at hc1
  refine vc_skip ?_
  refine hK5 _ ?_
  refine vc_seq fun K6 hK6 => ?_
  refine vc_block ?_
  refine vc_seq fun K7 hK7 => ?_
  refine vc_region ?_
  refine vo_move_pv rfl rfl ?_
  refine vo_assign_pv rfl rfl ?_
  refine vo_nil ?_
  refine hK7 _ ?_
  refine vc_seq fun K8 hK8 => ?_
  refine vc_region ?_
  refine vo_move_pv rfl rfl ?_
  refine vo_move_pv rfl rfl ?_
  refine vo_move_pv rfl rfl ?_
  refine vo_index_pv (.int .i64 0) rfl rfl rfl E28.und inf3 sz3 sd sd ?_
  simp only [Int.toNat_natCast, Int.toNat_zero, getD_ints, getD_intss, getD_bools, getD_bytes, PV.cells]
  refine vo_load_adr rfl rfl Try.underlying3 rfl ?_
  refine vo_binI rfl rfl rfl rfl trivial ?_
  refine vo_nil ?_
  refine hK8 _ ?_
  refine vc_cond rfl (fun hc2 => ?_) (fun hc2 => ?_)
  ·try simp only [zq0, zq1, zq2, zq3, zq4, zq5, zq6, zq7, zq8, zq9, zqa, zqb, zqc, zqd, zqe, zqf] at hc2
   refine vc_seq fun K9 hK9 => ?_
   refine vc_region ?_
   refine vo_move_pv rfl rfl ?_
   refine vo_assign_pv rfl rfl ?_
   refine vo_nil ?_
   refine hK9 _ ?_
   refine vc_ret ?_
   change retPv _ _ _ _ _
   refine retPv_mk rfl rfl rfl ⟨?_, rfl⟩
   refine (congrArg (fun b => [i64 b]) (?_ : _ = _) : [i64 _] = [i64 _])
   rw [hf, findM_drop _ _ _ (by omega), if_pos (by omega)]
  ·try simp only [zq0, zq1, zq2, zq3, zq4, zq5, zq6, zq7, zq8, zq9, zqa, zqb, zqc, zqd, zqe, zqf] at hc2
   refine vc_skip ?_
   refine hK6 _ ?_
   refine vc_region ?_
   refine vo_binI rfl rfl rfl rfl sd ?_
   refine vo_move_pv rfl rfl ?_
   refine vo_nil ?_
   change againF _ _ _ _ _ _ _ _ _
   refine againF_mk rfl rfl rfl rfl rfl rfl ⟨_, ?_, k + 1, rfl, ?_, ?_, rfl⟩
   ·omega
   ·omega
   ·rw [hf, findM_drop _ _ _ (by omega), if_neg (by omega)]; rfl
 ·try simp only [zq0, zq1, zq2, zq3, zq4, zq5, zq6, zq7, zq8, zq9, zqa, zqb, zqc, zqd, zqe, zqf] at hc1
  refine vc_exit ?_
  refine hK2 _ ?_
  refine vc_seq fun K10 hK10 => ?_
  refine vc_region ?_
  refine vo_assign_pv rfl rfl ?_
  refine vo_nil ?_
  refine hK10 _ ?_
  refine vc_ret ?_
  change retPv _ _ _ _ _
  refine retPv_mk rfl rfl rfl ⟨?_, rfl⟩
  refine (congrArg (fun b => [i64 b]) (?_ : _ = _) : [i64 _] = [i64 _])
  rw [hf, show k = s.length by omega, List.drop_length]; rfl


theorem Contains_sat {nl0 : Option Bool} {s : List Int} {v : Int} (hs : s.length < 1000000000)  : SatAt Try.prog 108 [.pv false (.sl nl0 1 (s.map intP)), i64 v] [] (fun res rows => res = [bo (decide (v ∈ s))] ∧ rows = []) := by
 refine sat_entry (ts := [4]) Try.func108 rfl rfl (by decide) (Nat.le_of_ble_eq_true rfl) fun C hC => ?_
 rw [Try.ntmps108]
 replace hC : C.nb = 0 := hC
 refine vc_seq fun K1 hK1 => ?_
 refine vc_region ?_
 refine vo_assign_pv rfl rfl ?_
 refine vo_nil ?_
 refine hK1 _ ?_
 refine vc_seq fun K2 hK2 => ?_
 refine vc_region ?_
 refine vo_move_pv rfl rfl ?_
 refine vo_move_pv rfl rfl ?_
 refine vo_call0 Try.func134 rfl rfl rfl rfl (Index_sat hs) ?_
 rintro _ _ ⟨rfl, rfl⟩
 refine ⟨rfl, rfl, .inl rfl, ?_⟩
 refine vo_binI rfl rfl rfl rfl trivial ?_
 refine vo_assign_pv rfl rfl ?_
 refine vo_nil ?_
 refine hK2 _ ?_
 refine vc_ret ?_
 change retPv _ _ _ _ _
 refine retPv_mk rfl rfl rfl ⟨?_, rfl⟩
 refine (congrArg (fun b => [bo b]) (?_ : _ = _) : [bo _] = [bo _])
 exact decide_eq_decide.2 (findM_mem _ _ _ (by omega))


theorem isList_sat {nl0 : Option Bool} {list : List Int} {most : Int} (hlist : list.length < 1000000000)  : SatAt Try.prog 100 [.pv false (.sl nl0 1 (list.map intP)), i64 most] [] (fun res rows => res = [bo (decide (OKL list most))] ∧ rows = []) := by
 refine sat_entry (ts := [4]) Try.func100 rfl rfl (by decide) (Nat.le_of_ble_eq_true rfl) fun C hC => ?_
 rw [Try.ntmps100]
 replace hC : C.nb = 0 := hC
 refine vc_seq fun K1 hK1 => ?_
 refine vc_region ?_
 refine vo_assign_pv rfl rfl ?_
 refine vo_nil ?_
 refine hK1 _ ?_
 refine vc_seq fun K2 hK2 => ?_
 refine vc_seq fun K3 hK3 => ?_
 refine vc_region ?_
 refine vo_move_pv rfl rfl ?_
 refine vo_len_pv rfl rfl Try.underlying28 ?_
 refine vo_move_pv rfl rfl ?_
 refine vo_binI rfl rfl rfl rfl trivial ?_
 refine vo_nil ?_
 refine hK3 _ ?_
 refine vc_cond rfl (fun hc1 => ?_) (fun hc1 => ?_)
 ·try simp only [zq0, zq1, zq2, zq3, zq4, zq5, zq6, zq7, zq8, zq9, zqa, zqb, zqc, zqd, zqe, zqf] at hc1
  refine vc_seq fun K4 hK4 => ?_
  refine vc_region ?_
  refine vo_assign_pv rfl rfl ?_
  refine vo_nil ?_
  refine hK4 _ ?_
  refine vc_ret ?_
  change retPv _ _ _ _ _
  refine retPv_mk rfl rfl rfl ⟨?_, rfl⟩
  refine (congrArg (fun b => [bo b]) (?_ : _ = _) : [bo _] = [bo _])
  exact bF fun h => by have := h.1; omega
 ·try simp only [zq0, zq1, zq2, zq3, zq4, zq5, zq6, zq7, zq8, zq9, zqa, zqb, zqc, zqd, zqe, zqf] at hc1
  refine vc_skip ?_
  refine hK2 _ ?_
  refine vc_seq fun K5 hK5 => ?_
  refine vc_seq fun K6 hK6 => ?_
  refine vc_region ?_
  refine vo_move_pv rfl rfl ?_
  refine vo_len_pv rfl rfl Try.underlying28 ?_
  refine vo_move_pv rfl rfl ?_
  refine vo_nil ?_
  refine hK6 _ ?_
  refine vc_block ?_
  refine vc_stN ?_
  refine vc_loopF [0, 11, 12] [13] [.pv false (.sl nl0 1 (list.map intP)), .pv false (.sl nl0 1 (list.map intP)), i64 (list.map intP).length] _ (fun mz vs => ∃ (k : Nat), mz = list.length - k ∧ (k ≤ list.length) ∧ ((list.take k).Nodup) ∧ vs = [i64 k]) (list.length) rfl rfl (le_len hC rfl) ⟨rfl, rfl, rfl⟩ ⟨0, rfl, Nat.zero_le _, List.nodup_nil, rfl⟩ ?_
  rintro mz vs - ⟨k, rfl, hk, hf, rfl⟩
  refine vc_stN ?_
  refine vc_seq fun K7 hK7 => ?_
  refine vc_region ?_
  refine vo_binI rfl rfl rfl rfl trivial ?_
  refine vo_nil ?_
  refine hK7 _ ?_
  refine vc_seq fun K8 hK8 => ?_
  refine vc_cond rfl (fun hc2 => ?_) (fun hc2 => ?_)
  ·try simp only [zq0, zq1, zq2, zq3, zq4, zq5, zq6, zq7, zq8, zq9, zqa, zqb, zqc, zqd, zqe, zqf] at hc2
   refine vc_skip ?_
   refine hK8 _ ?_
   refine vc_seq fun K9 hK9 => ?_
   refine vc_block ?_
   refine vc_seq fun K10 hK10 => ?_
   refine vc_region ?_
   refine vo_move_pv rfl rfl ?_
   refine vo_index_pv (.int .i64 0) rfl rfl rfl E28.und inf3 sz3 sd sd ?_
   simp only [Int.toNat_natCast, Int.toNat_zero, getD_ints, getD_intss, getD_bools, getD_bytes, PV.cells]
   refine vo_load_adr rfl rfl Try.underlying3 rfl ?_
   refine vo_assign_pv rfl rfl ?_
   refine vo_assign_pv rfl rfl ?_
   refine vo_nil ?_
   refine hK10 _ ?_
   refine vc_seq fun K11 hK11 => ?_
   refine vc_region ?_
   refine vo_move_pv rfl rfl ?_
   refine vo_move_pv rfl rfl ?_
   refine vo_slice_pv rfl rfl rfl rfl E28.und inf3 sz3 sd sd sd ?_
   simp only [Int.toNat_natCast, Int.toNat_zero, List.drop_zero, Nat.sub_zero, ← List.map_drop, ← List.map_take]
   refine vo_move_pv rfl rfl ?_
   refine vo_call0 Try.func108 rfl rfl rfl rfl (Contains_sat (by simp; omega)) ?_
   rintro _ _ ⟨rfl, rfl⟩
   refine ⟨rfl, rfl, .inl rfl, ?_⟩
   refine vo_nil ?_
   refine hK11 _ ?_
   refine vc_cond rfl (fun hc3 => ?_) (fun hc3 => ?_)
   ·try simp only [zq0, zq1, zq2, zq3, zq4, zq5, zq6, zq7, zq8, zq9, zqa, zqb, zqc, zqd, zqe, zqf] at hc3
    refine vc_seq fun K12 hK12 => ?_
    refine vc_region ?_
    refine vo_assign_pv rfl rfl ?_
    refine vo_nil ?_
    refine hK12 _ ?_
    refine vc_ret ?_
    change retPv _ _ _ _ _
    refine retPv_mk rfl rfl rfl ⟨?_, rfl⟩
    refine (congrArg (fun b => [bo b]) (?_ : _ = _) : [bo _] = [bo _])
    exact bF fun h => ((nodup_take_succ (by omega) 0).1 (nodup_take (k+1) h.2)).2 hc3
   ·try simp only [zq0, zq1, zq2, zq3, zq4, zq5, zq6, zq7, zq8, zq9, zqa, zqb, zqc, zqd, zqe, zqf] at hc3
    refine vc_skip ?_
    refine hK9 _ ?_
    refine vc_region ?_
    refine vo_binI rfl rfl rfl rfl sd ?_
    refine vo_move_pv rfl rfl ?_
    refine vo_nil ?_
    change againF _ _ _ _ _ _ _ _ _
    refine againF_mk rfl rfl rfl rfl rfl rfl ⟨_, ?_, k + 1, rfl, ?_, ?_, rfl⟩
    ·omega
    ·omega
    ·exact (nodup_take_succ (by omega) 0).2 ⟨hf, hc3⟩
  ·try simp only [zq0, zq1, zq2, zq3, zq4, zq5, zq6, zq7, zq8, zq9, zqa, zqb, zqc, zqd, zqe, zqf] at hc2
   refine vc_exit ?_
   refine hK5 _ ?_
   refine vc_seq fun K13 hK13 => ?_
   refine vc_region ?_
   refine vo_assign_pv rfl rfl ?_
   refine vo_nil ?_
   refine hK13 _ ?_
   refine vc_ret ?_
   change retPv _ _ _ _ _
   refine retPv_mk rfl rfl rfl ⟨?_, rfl⟩
   refine (congrArg (fun b => [bo b]) (?_ : _ = _) : [bo _] = [bo _])
   rw [take_all (by omega)] at hf; exact bT ⟨by omega, hf⟩


theorem isUpTo_sat {n : Int} {most : Int}   : SatAt Try.prog 106 [i64 n, i64 most] [] (fun res rows => res = [bo (decide (0 ≤ n ∧ n ≤ most))] ∧ rows = []) := by
 refine sat_entry (ts := [4]) Try.func106 rfl rfl (by decide) (Nat.le_of_ble_eq_true rfl) fun C hC => ?_
 rw [Try.ntmps106]
 replace hC : C.nb = 0 := hC
 refine vc_seq fun K1 hK1 => ?_
 refine vc_region ?_
 refine vo_assign_pv rfl rfl ?_
 refine vo_nil ?_
 refine hK1 _ ?_
 refine vc_seq fun K2 hK2 => ?_
 refine vc_region ?_
 refine vo_move_pv rfl rfl ?_
 refine vo_binI rfl rfl rfl rfl trivial ?_
 refine vo_move_pv rfl rfl ?_
 refine vo_split 7 rfl (fun hg1 => ?_) (fun hg1 => ?_)
 ·try simp only [zq0, zq1, zq2, zq3, zq4, zq5, zq6, zq7, zq8, zq9, zqa, zqb, zqc, zqd, zqe, zqf] at hg1
  refine vo_guard_on rfl rfl rfl ?_
  refine vo_move_pv rfl rfl ?_
  refine vo_guard_on rfl rfl rfl ?_
  refine vo_move_pv rfl rfl ?_
  refine vo_guard_on rfl rfl rfl ?_
  refine vo_binI rfl rfl rfl rfl trivial ?_
  refine vo_pick_t rfl rfl ?_
  refine vo_assign_pv rfl rfl ?_
  refine vo_nil ?_
  refine hK2 _ ?_
  refine vc_ret ?_
  change retPv _ _ _ _ _
  refine retPv_mk rfl rfl rfl ⟨?_, rfl⟩
  refine (congrArg (fun b => [bo b]) (?_ : _ = _) : [bo _] = [bo _])
  simp_all <;> omega
 ·try simp only [zq0, zq1, zq2, zq3, zq4, zq5, zq6, zq7, zq8, zq9, zqa, zqb, zqc, zqd, zqe, zqf] at hg1
  refine vo_guard_off rfl rfl rfl rfl rfl ?_
  refine vo_guard_off rfl rfl rfl rfl rfl ?_
  refine vo_guard_off rfl rfl rfl rfl rfl ?_
  refine vo_pick_f rfl rfl ?_
  refine vo_assign_pv rfl rfl ?_
  refine vo_nil ?_
  refine hK2 _ ?_
  refine vc_ret ?_
  change retPv _ _ _ _ _
  refine retPv_mk rfl rfl rfl ⟨?_, rfl⟩
  refine (congrArg (fun b => [bo b]) (?_ : _ = _) : [bo _] = [bo _])
  simp_all <;> omega


theorem areUpTo_sat {nl0 : Option Bool} {list : List Int} {most : Int} (hlist : list.length < 1000000000)  : SatAt Try.prog 78 [.pv false (.sl nl0 1 (list.map intP)), i64 most] [] (fun res rows => res = [bo (decide (∀ x ∈ list, 0 ≤ x ∧ x ≤ most))] ∧ rows = []) := by
 refine sat_entry (ts := [4]) Try.func78 rfl rfl (by decide) (Nat.le_of_ble_eq_true rfl) fun C hC => ?_
 rw [Try.ntmps78]
 replace hC : C.nb = 0 := hC
 refine vc_seq fun K1 hK1 => ?_
 refine vc_region ?_
 refine vo_assign_pv rfl rfl ?_
 refine vo_nil ?_
 refine hK1 _ ?_
 refine vc_seq fun K2 hK2 => ?_
 refine vc_seq fun K3 hK3 => ?_
 refine vc_region ?_
 refine vo_move_pv rfl rfl ?_
 refine vo_len_pv rfl rfl Try.underlying28 ?_
 refine vo_move_pv rfl rfl ?_
 refine vo_nil ?_
 refine hK3 _ ?_
 refine vc_block ?_
 refine vc_stN ?_
 refine vc_loopF [1, 7, 8] [9] [i64 most, .pv false (.sl nl0 1 (list.map intP)), i64 (list.map intP).length] _ (fun mz vs => ∃ (k : Nat), mz = list.length - k ∧ (k ≤ list.length) ∧ (∀ x ∈ list.take k, 0 ≤ x ∧ x ≤ most) ∧ vs = [i64 k]) (list.length) rfl rfl (le_len hC rfl) ⟨rfl, rfl, rfl⟩ ⟨0, rfl, Nat.zero_le _, (by simp), rfl⟩ ?_
 rintro mz vs - ⟨k, rfl, hk, hf, rfl⟩
 refine vc_stN ?_
 refine vc_seq fun K4 hK4 => ?_
 refine vc_region ?_
 refine vo_binI rfl rfl rfl rfl trivial ?_
 refine vo_nil ?_
 refine hK4 _ ?_
 refine vc_seq fun K5 hK5 => ?_
 refine vc_cond rfl (fun hc1 => ?_) (fun hc1 => ?_)
 ·try simp only [zq0, zq1, zq2, zq3, zq4, zq5, zq6, zq7, zq8, zq9, zqa, zqb, zqc, zqd, zqe, zqf] at hc1
  refine vc_skip ?_
  refine hK5 _ ?_
  refine vc_seq fun K6 hK6 => ?_
  refine vc_block ?_
  refine vc_seq fun K7 hK7 => ?_
  refine vc_region ?_
  refine vo_index_pv (.int .i64 0) rfl rfl rfl E28.und inf3 sz3 sd sd ?_
  simp only [Int.toNat_natCast, Int.toNat_zero, getD_ints, getD_intss, getD_bools, getD_bytes, PV.cells]
  refine vo_load_adr rfl rfl Try.underlying3 rfl ?_
  refine vo_assign_pv rfl rfl ?_
  refine vo_nil ?_
  refine hK7 _ ?_
  refine vc_seq fun K8 hK8 => ?_
  refine vc_region ?_
  refine vo_move_pv rfl rfl ?_
  refine vo_move_pv rfl rfl ?_
  refine vo_call0 Try.func106 rfl rfl rfl rfl isUpTo_sat ?_
  rintro _ _ ⟨rfl, rfl⟩
  refine ⟨rfl, rfl, .inl rfl, ?_⟩
  refine vo_not rfl rfl ?_
  refine vo_nil ?_
  refine hK8 _ ?_
  refine vc_cond rfl (fun hc2 => ?_) (fun hc2 => ?_)
  ·try simp only [zq0, zq1, zq2, zq3, zq4, zq5, zq6, zq7, zq8, zq9, zqa, zqb, zqc, zqd, zqe, zqf] at hc2
   refine vc_seq fun K9 hK9 => ?_
   refine vc_region ?_
   refine vo_assign_pv rfl rfl ?_
   refine vo_nil ?_
   refine hK9 _ ?_
   refine vc_ret ?_
   change retPv _ _ _ _ _
   refine retPv_mk rfl rfl rfl ⟨?_, rfl⟩
   refine (congrArg (fun b => [bo b]) (?_ : _ = _) : [bo _] = [bo _])
   exact bF fun h => by have := h _ (getD_mem (show k < list.length by omega) 0); first | contradiction | omega
  ·try simp only [zq0, zq1, zq2, zq3, zq4, zq5, zq6, zq7, zq8, zq9, zqa, zqb, zqc, zqd, zqe, zqf] at hc2
   refine vc_skip ?_
   refine hK6 _ ?_
   refine vc_region ?_
   refine vo_binI rfl rfl rfl rfl sd ?_
   refine vo_move_pv rfl rfl ?_
   refine vo_nil ?_
   change againF _ _ _ _ _ _ _ _ _
   refine againF_mk rfl rfl rfl rfl rfl rfl ⟨_, ?_, k + 1, rfl, ?_, ?_, rfl⟩
   ·omega
   ·omega
   ·exact (all_take_succ (by omega) 0).2 ⟨hf, by first | assumption | omega⟩
 ·try simp only [zq0, zq1, zq2, zq3, zq4, zq5, zq6, zq7, zq8, zq9, zqa, zqb, zqc, zqd, zqe, zqf] at hc1
  refine vc_exit ?_
  refine hK2 _ ?_
  refine vc_seq fun K10 hK10 => ?_
  refine vc_region ?_
  refine vo_assign_pv rfl rfl ?_
  refine vo_nil ?_
  refine hK10 _ ?_
  refine vc_ret ?_
  change retPv _ _ _ _ _
  refine retPv_mk rfl rfl rfl ⟨?_, rfl⟩
  refine (congrArg (fun b => [bo b]) (?_ : _ = _) : [bo _] = [bo _])
  rw [take_all (by omega)] at hf; exact bT hf


theorem canBeBases_sat {nl0 : Option Bool} {list : List Int} {c : Int} (hlist : list.length < 1000000000) (hc : -1000000 < c ∧ c < 1000000) : SatAt Try.prog 116 [.pv false (.sl nl0 1 (list.map intP)), i64 c] [] (fun res rows => res = [bo (decide (CB list c))] ∧ rows = []) := by
 refine sat_entry (ts := [4]) Try.func116 rfl rfl (by decide) (Nat.le_of_ble_eq_true rfl) fun C hC => ?_
 rw [Try.ntmps116]
 replace hC : C.nb = 0 := hC
 refine vc_seq fun K1 hK1 => ?_
 refine vc_region ?_
 refine vo_assign_pv rfl rfl ?_
 refine vo_nil ?_
 refine hK1 _ ?_
 refine vc_seq fun K2 hK2 => ?_
 refine vc_region ?_
 refine vo_move_pv rfl rfl ?_
 refine vo_len_pv rfl rfl Try.underlying28 ?_
 refine vo_binI rfl rfl rfl rfl trivial ?_
 refine vo_move_pv rfl rfl ?_
 refine vo_split 8 rfl (fun hg1 => ?_) (fun hg1 => ?_)
 ·try simp only [zq0, zq1, zq2, zq3, zq4, zq5, zq6, zq7, zq8, zq9, zqa, zqb, zqc, zqd, zqe, zqf] at hg1
  refine vo_guard_on rfl rfl rfl ?_
  refine vo_move_pv rfl rfl ?_
  refine vo_guard_on rfl rfl rfl ?_
  refine vo_call0 Try.func100 rfl rfl rfl rfl (isList_sat hlist) ?_
  rintro _ _ ⟨rfl, rfl⟩
  refine ⟨rfl, rfl, .inl rfl, ?_⟩
  refine vo_pick_t rfl rfl ?_
  refine vo_move_pv rfl rfl ?_
  refine vo_split 12 rfl (fun hg2 => ?_) (fun hg2 => ?_)
  ·try simp only [zq0, zq1, zq2, zq3, zq4, zq5, zq6, zq7, zq8, zq9, zqa, zqb, zqc, zqd, zqe, zqf] at hg2
   refine vo_guard_on rfl rfl rfl ?_
   refine vo_move_pv rfl rfl ?_
   refine vo_guard_on rfl rfl rfl ?_
   refine vo_move_pv rfl rfl ?_
   refine vo_guard_on rfl rfl rfl ?_
   refine vo_binI rfl rfl rfl rfl sd ?_
   refine vo_guard_on rfl rfl rfl ?_
   refine vo_call0 Try.func78 rfl rfl rfl rfl (areUpTo_sat hlist) ?_
   rintro _ _ ⟨rfl, rfl⟩
   refine ⟨rfl, rfl, .inl rfl, ?_⟩
   refine vo_pick_t rfl rfl ?_
   refine vo_assign_pv rfl rfl ?_
   refine vo_nil ?_
   refine hK2 _ ?_
   refine vc_ret ?_
   change retPv _ _ _ _ _
   refine retPv_mk rfl rfl rfl ⟨?_, rfl⟩
   refine (congrArg (fun b => [bo b]) (?_ : _ = _) : [bo _] = [bo _])
   exact decide_eq_decide.2 ⟨fun h => ⟨fun e => by simp [e] at hg1, by have := hg2.1; omega, hg2.2, h⟩, fun h => h.2.2.2⟩
  ·try simp only [zq0, zq1, zq2, zq3, zq4, zq5, zq6, zq7, zq8, zq9, zqa, zqb, zqc, zqd, zqe, zqf] at hg2
   refine vo_guard_off rfl rfl rfl rfl rfl ?_
   refine vo_guard_off rfl rfl rfl rfl rfl ?_
   refine vo_guard_off rfl rfl rfl rfl rfl ?_
   refine vo_guard_off rfl rfl rfl rfl rfl ?_
   refine vo_pick_f rfl rfl ?_
   refine vo_assign_pv rfl rfl ?_
   refine vo_nil ?_
   refine hK2 _ ?_
   refine vc_ret ?_
   change retPv _ _ _ _ _
   refine retPv_mk rfl rfl rfl ⟨?_, rfl⟩
   refine (congrArg (fun b => [bo b]) (?_ : _ = _) : [bo _] = [bo _])
   exact bF fun h => hg2 ⟨by have := h.2.1; omega, h.2.2.1⟩
 ·try simp only [zq0, zq1, zq2, zq3, zq4, zq5, zq6, zq7, zq8, zq9, zqa, zqb, zqc, zqd, zqe, zqf] at hg1
  refine vo_guard_off rfl rfl rfl rfl rfl ?_
  refine vo_guard_off rfl rfl rfl rfl rfl ?_
  refine vo_pick_f rfl rfl ?_
  refine vo_move_pv rfl rfl ?_
  refine vo_guard_off rfl rfl rfl rfl rfl ?_
  refine vo_guard_off rfl rfl rfl rfl rfl ?_
  refine vo_guard_off rfl rfl rfl rfl rfl ?_
  refine vo_guard_off rfl rfl rfl rfl rfl ?_
  refine vo_pick_f rfl rfl ?_
  refine vo_assign_pv rfl rfl ?_
  refine vo_nil ?_
  refine hK2 _ ?_
  refine vc_ret ?_
  change retPv _ _ _ _ _
  refine retPv_mk rfl rfl rfl ⟨?_, rfl⟩
  refine (congrArg (fun b => [bo b]) (?_ : _ = _) : [bo _] = [bo _])
  exact bF fun h => h.1 (List.length_eq_zero_iff.1 (by omega))


theorem implValidBases_sat {nl0 : Option Bool} {bases : List (List Int)} (hbases : bases.length < 1000000000) (hlbases : ∀ l ∈ bases, l.length < 1000000000)  : SatAt Try.prog 77 [.pv false (.sl nl0 1 (bases.map ints))] [] (fun res rows => res = [bo (decide (VB bases))] ∧ rows = []) := by
 refine sat_entry (ts := [2]) Try.func77 rfl rfl (by decide) (Nat.le_of_ble_eq_true rfl) fun C hC => ?_
 rw [Try.ntmps77]
 replace hC : C.nb = 0 := hC
 refine vc_seq fun K1 hK1 => ?_
 refine vc_region ?_
 refine vo_assign_pv rfl rfl ?_
 refine vo_nil ?_
 refine hK1 _ ?_
 refine vc_seq fun K2 hK2 => ?_
 refine vc_seq fun K3 hK3 => ?_
 refine vc_region ?_
 refine vo_move_pv rfl rfl ?_
 refine vo_len_pv rfl rfl Try.underlying23 ?_
 refine vo_binI rfl rfl rfl rfl trivial ?_
 refine vo_move_pv rfl rfl ?_
 refine vo_split 7 rfl (fun hg1 => ?_) (fun hg1 => ?_)
 ·try simp only [zq0, zq1, zq2, zq3, zq4, zq5, zq6, zq7, zq8, zq9, zqa, zqb, zqc, zqd, zqe, zqf] at hg1
  refine vo_guard_off rfl rfl rfl rfl rfl ?_
  refine vo_guard_off rfl rfl rfl rfl rfl ?_
  refine vo_guard_off rfl rfl rfl rfl rfl ?_
  refine vo_pick_t rfl rfl ?_
  refine vo_move_pv rfl rfl ?_
  refine vo_guard_off rfl rfl rfl rfl rfl ?_
  refine vo_guard_off rfl rfl rfl rfl rfl ?_
  refine vo_guard_off rfl rfl rfl rfl rfl ?_
  refine vo_guard_off rfl rfl rfl rfl rfl ?_
  refine vo_guard_off rfl rfl rfl rfl rfl ?_
  refine vo_pick_t rfl rfl ?_
  refine vo_nil ?_
  refine hK3 _ ?_
  refine vc_cond_t rfl ?_
  refine vc_seq fun K4 hK4 => ?_
  refine vc_region ?_
  refine vo_assign_pv rfl rfl ?_
  refine vo_nil ?_
  refine hK4 _ ?_
  refine vc_ret ?_
  change retPv _ _ _ _ _
  refine retPv_mk rfl rfl rfl ⟨?_, rfl⟩
  refine (congrArg (fun b => [bo b]) (?_ : _ = _) : [bo _] = [bo _])
  exact bF fun h => by have := h.1; omega
 ·try simp only [zq0, zq1, zq2, zq3, zq4, zq5, zq6, zq7, zq8, zq9, zqa, zqb, zqc, zqd, zqe, zqf] at hg1
  refine vo_guard_on rfl rfl rfl ?_
  refine vo_move_pv rfl rfl ?_
  refine vo_guard_on rfl rfl rfl ?_
  refine vo_len_pv rfl rfl Try.underlying23 ?_
  refine vo_guard_on rfl rfl rfl ?_
  refine vo_binI rfl rfl rfl rfl trivial ?_
  refine vo_pick_f rfl rfl ?_
  refine vo_move_pv rfl rfl ?_
  refine vo_split 12 rfl (fun hg2 => ?_) (fun hg2 => ?_)
  ·try simp only [zq0, zq1, zq2, zq3, zq4, zq5, zq6, zq7, zq8, zq9, zqa, zqb, zqc, zqd, zqe, zqf] at hg2
   refine vo_guard_off rfl rfl rfl rfl rfl ?_
   refine vo_guard_off rfl rfl rfl rfl rfl ?_
   refine vo_guard_off rfl rfl rfl rfl rfl ?_
   refine vo_guard_off rfl rfl rfl rfl rfl ?_
   refine vo_guard_off rfl rfl rfl rfl rfl ?_
   refine vo_pick_t rfl rfl ?_
   refine vo_nil ?_
   refine hK3 _ ?_
   refine vc_cond_t rfl ?_
   refine vc_seq fun K5 hK5 => ?_
   refine vc_region ?_
   refine vo_assign_pv rfl rfl ?_
   refine vo_nil ?_
   refine hK5 _ ?_
   refine vc_ret ?_
   change retPv _ _ _ _ _
   refine retPv_mk rfl rfl rfl ⟨?_, rfl⟩
   refine (congrArg (fun b => [bo b]) (?_ : _ = _) : [bo _] = [bo _])
   exact bF fun h => by have := h.2.1; omega
  ·try simp only [zq0, zq1, zq2, zq3, zq4, zq5, zq6, zq7, zq8, zq9, zqa, zqb, zqc, zqd, zqe, zqf] at hg2
   refine vo_guard_on rfl rfl rfl ?_
   refine vo_move_pv rfl rfl ?_
   refine vo_guard_on rfl rfl rfl ?_
   refine vo_index_pv (.sl none 1 []) rfl rfl rfl E23.und inf28 sz28 sd sd ?_
   simp only [Int.toNat_natCast, Int.toNat_zero, getD_ints, getD_intss, getD_bools, getD_bytes, PV.cells]
   refine vo_guard_on rfl rfl rfl ?_
   refine vo_load_adr rfl rfl Try.underlying28 rfl ?_
   refine vo_guard_on rfl rfl rfl ?_
   refine vo_len_pv rfl rfl Try.underlying28 ?_
   refine vo_guard_on rfl rfl rfl ?_
   refine vo_binI rfl rfl rfl rfl trivial ?_
   refine vo_pick_f rfl rfl ?_
   refine vo_nil ?_
   refine hK3 _ ?_
   refine vc_cond rfl (fun hc3 => ?_) (fun hc3 => ?_)
   ·try simp only [zq0, zq1, zq2, zq3, zq4, zq5, zq6, zq7, zq8, zq9, zqa, zqb, zqc, zqd, zqe, zqf] at hc3
    refine vc_seq fun K6 hK6 => ?_
    refine vc_region ?_
    refine vo_assign_pv rfl rfl ?_
    refine vo_nil ?_
    refine hK6 _ ?_
    refine vc_ret ?_
    change retPv _ _ _ _ _
    refine retPv_mk rfl rfl rfl ⟨?_, rfl⟩
    refine (congrArg (fun b => [bo b]) (?_ : _ = _) : [bo _] = [bo _])
    exact bF fun h => by rw [h.2.2.1] at hc3; simp at hc3
   ·try simp only [zq0, zq1, zq2, zq3, zq4, zq5, zq6, zq7, zq8, zq9, zqa, zqb, zqc, zqd, zqe, zqf] at hc3
    refine vc_skip ?_
    refine hK2 _ ?_
    refine vc_seq fun K7 hK7 => ?_
    refine vc_seq fun K8 hK8 => ?_
    refine vc_region ?_
    refine vo_assign_pv rfl rfl ?_
    refine vo_nil ?_
    refine hK8 _ ?_
    refine vc_block ?_
    refine vc_stN ?_
    refine vc_loopF [0] [3] [.pv false (.sl nl0 1 (bases.map ints))] _ (fun mz vs => ∃ (k : Nat), mz = bases.length - k ∧ (k ≤ bases.length) ∧ (1 ≤ k) ∧ ((∀ i, i < k → 0 < i → CB (bases.getD i []) i)) ∧ vs = [i64 k]) (bases.length - 1) rfl rfl (le_len hC rfl) ⟨rfl, rfl, rfl⟩ ⟨1, rfl, by omega, Nat.le_refl _, (fun i h1 h2 => by omega), rfl⟩ ?_
    rintro mz vs - ⟨k, rfl, hk, h1, hf, rfl⟩
    refine vc_stN ?_
    refine vc_seq fun K9 hK9 => ?_
    refine vc_seq fun K10 hK10 => ?_
    refine vc_region ?_
    refine vo_move_pv rfl rfl ?_
    refine vo_move_pv rfl rfl ?_
    refine vo_len_pv rfl rfl Try.underlying23 ?_
    refine vo_binI rfl rfl rfl rfl trivial ?_
    refine vo_nil ?_
    refine hK10 _ ?_
    refine vc_cond rfl (fun hc4 => ?_) (fun hc4 => ?_)
    ·try simp only [zq0, zq1, zq2, zq3, zq4, zq5, zq6, zq7, zq8, zq9, zqa, zqb, zqc, zqd, zqe, zqf] at hc4
     refine vc_skip ?_
     refine hK9 _ ?_
     refine vc_seq fun K11 hK11 => ?_
     refine vc_block ?_
     refine vc_seq fun K12 hK12 => ?_
     refine vc_region ?_
     refine vo_move_pv rfl rfl ?_
     refine vo_move_pv rfl rfl ?_
     refine vo_index_pv (.sl none 1 []) rfl rfl rfl E23.und inf28 sz28 sd sd ?_
     simp only [Int.toNat_natCast, Int.toNat_zero, getD_ints, getD_intss, getD_bools, getD_bytes, PV.cells]
     refine vo_load_adr rfl rfl Try.underlying28 rfl ?_
     refine vo_move_pv rfl rfl ?_
     refine vo_call0 Try.func116 rfl rfl rfl rfl (canBeBases_sat (lens hlbases _ (by omega)) (by omega)) ?_
     rintro _ _ ⟨rfl, rfl⟩
     refine ⟨rfl, rfl, .inl rfl, ?_⟩
     refine vo_not rfl rfl ?_
     refine vo_nil ?_
     refine hK12 _ ?_
     refine vc_cond rfl (fun hc5 => ?_) (fun hc5 => ?_)
     ·try simp only [zq0, zq1, zq2, zq3, zq4, zq5, zq6, zq7, zq8, zq9, zqa, zqb, zqc, zqd, zqe, zqf] at hc5
      refine vc_seq fun K13 hK13 => ?_
      refine vc_region ?_
      refine vo_assign_pv rfl rfl ?_
      refine vo_nil ?_
      refine hK13 _ ?_
      refine vc_ret ?_
      change retPv _ _ _ _ _
      refine retPv_mk rfl rfl rfl ⟨?_, rfl⟩
      refine (congrArg (fun b => [bo b]) (?_ : _ = _) : [bo _] = [bo _])
      exact bF fun h => hc5 (h.2.2.2 k (by omega) (by omega))
     ·try simp only [zq0, zq1, zq2, zq3, zq4, zq5, zq6, zq7, zq8, zq9, zqa, zqb, zqc, zqd, zqe, zqf] at hc5
      refine vc_skip ?_
      refine hK11 _ ?_
      refine vc_region ?_
      refine vo_move_pv rfl rfl ?_
      refine vo_binI rfl rfl rfl rfl sd ?_
      refine vo_assign_pv rfl rfl ?_
      refine vo_nil ?_
      change againF _ _ _ _ _ _ _ _ _
      refine againF_mk rfl rfl rfl rfl rfl rfl ⟨_, ?_, k + 1, rfl, ?_, ?_, ?_, rfl⟩
      ·omega
      ·omega
      ·omega
      ·exact fun i h h0 => by rcases Nat.lt_or_ge i k with h1 | h1; exact hf i h1 h0; rwa [show i = k by omega]
    ·try simp only [zq0, zq1, zq2, zq3, zq4, zq5, zq6, zq7, zq8, zq9, zqa, zqb, zqc, zqd, zqe, zqf] at hc4
     refine vc_exit ?_
     refine hK7 _ ?_
     refine vc_seq fun K14 hK14 => ?_
     refine vc_region ?_
     refine vo_assign_pv rfl rfl ?_
     refine vo_nil ?_
     refine hK14 _ ?_
     refine vc_ret ?_
     change retPv _ _ _ _ _
     refine retPv_mk rfl rfl rfl ⟨?_, rfl⟩
     refine (congrArg (fun b => [bo b]) (?_ : _ = _) : [bo _] = [bo _])
     exact bT ⟨by omega, by omega, List.length_eq_zero_iff.1 (by omega), fun i h h0 => hf i (by omega) h0⟩

end Go.Vl

namespace Go.Vl
set_option linter.unusedVariables false
set_option linter.unusedSimpArgs false
open Go.Proofs

/-- The classes above a class; none where there is no such class. -/
def abvR (b : List (List Int)) (c : Int) : List Int := if VB b ∧ 0 ≤ c ∧ c < b.length then abvL b c.toNat else []
end Go.Vl

namespace Go.Vl
set_option linter.unusedVariables false
set_option linter.unusedSimpArgs false
open Go.Proofs

end Go.Vl

namespace Go.Vl
set_option linter.unusedVariables false
set_option linter.unusedSimpArgs false
open Go.Proofs

def belR (b : List (List Int)) (c : Int) : List Int := if VB b ∧ 0 ≤ c ∧ c < b.length then belL b c.toNat else []
def OKLs (ls : List (List Int)) : Prop := (∀ l ∈ ls, OKL l 12) ∧ ls.length ≤ 6
instance {ls : List (List Int)} : Decidable (OKLs ls) := by unfold OKLs; infer_instance
def KeepP (long short : List Int) : Prop := OKL long 12 ∧ OKL short 12 ∧ kpN short long 0 = short.length
instance {a b : List Int} : Decidable (KeepP a b) := by unfold KeepP; infer_instance
def OC (b s : List (List Int)) : Prop := VS b s ∧ ∀ j, j < s.length → ∀ i, i < j → (s.getD i []).length > 0 → (s.getD j []).length > 0 → (i : Int) ∈ abvL b j
noncomputable instance {a b : List (List Int)} : Decidable (OC a b) := Classical.propDecidable _
end Go.Vl

namespace Go.Vl
set_option linter.unusedVariables false
set_option linter.unusedSimpArgs false
open Go.Proofs

theorem VB.take {b : List (List Int)} {k : Nat} (h : VB b) (h1 : 1 ≤ k) (h2 : k ≤ b.length) : VB (b.take k) := by
  obtain ⟨a1, a2, a3, a4⟩ := h
  have e : ∀ i, i < k → (b.take k).getD i [] = b.getD i [] := fun i hi => by simp [List.getD, List.getElem?_take, hi]
  have l : (b.take k).length = k := by rw [List.length_take]; omega
  exact ⟨by omega, by omega, by rw [e 0 (by omega)]; exact a3, fun i hi h0 => by rw [e i (by omega)]; exact a4 i (by omega) h0⟩
theorem set_lens {B : List (List Int)} {l : List Int} {i N : Nat} (h : ∀ x ∈ B, x.length ≤ N) (hl : l.length ≤ N) : ∀ x ∈ B.set i l, x.length ≤ N := by
  intro x hx
  rcases List.mem_or_eq_of_mem_set hx with hx | rfl
  · exact h x hx
  · exact hl
theorem app_lens {B : List (List Int)} {l : List Int} {N : Nat} (h : ∀ x ∈ B, x.length ≤ N) (hl : l.length ≤ N) : ∀ x ∈ B ++ [l], x.length ≤ N := by
  intro x hx
  rcases List.mem_append.1 hx with hx | hx
  · exact h x hx
  · rw [List.mem_singleton.1 hx]; exact hl

end Go.Vl

/- From a function's contract to the row of a law over bytes. -/
namespace Go.Vl
set_option linter.unusedVariables false
set_option linter.unusedSimpArgs false
open Go.RowKit Go.WideShapes

theorem okWide_spot {P : Program} {W : World} {base : Nat} {t e : TypeId} {a : Addr} {len cap : Nat} (hT : P.underlying t = some (.slice e)) (h : Value.okWide P W .any base t (.slice (some a) len cap)) :
    a.spot = none ∧ a.block < W.heap.size := by
  simp only [Value.okWide, hT, Cell.okWide, Cell.ok, World.has] at h
  obtain ⟨_, _, _, h1, row, cells, h2, _⟩ := h
  refine ⟨h1, ?_⟩
  unfold World.shape? at h2
  rcases Nat.lt_or_ge a.block W.heap.size with h3 | h3
  · exact h3
  · rw [Array.getElem?_eq_none h3] at h2; cases h2

/-- What is known of bytes that come in. -/
def BytesAt (w : World) (a0 : Option Addr) (len cap : Nat) : Prop :=
  (a0 = none ∧ len = 0 ∧ cap = 0) ∨ ∃ (x : Addr) (zs : List Int), a0 = some x ∧ x.spot = none ∧ x.block < w.heap.size ∧ len ≤ cap ∧ zs.length = cap ∧
    (∀ i, i < zs.length → w.cell? (x.add i) = some (.int .u8 (zs.getD i 0))) ∧ ∀ n ∈ zs, (Lit.int .u8 n).wf = true

theorem bytes_pv {w : World} {a0 : Option Addr} {len cap : Nat} {G : Nat → Prop} (hG : ∀ b, b < w.heap.size → G b) (h : BytesAt w a0 len cap) :
    ∃ (nl : Option Bool) (c : List (Fin 256)), RP w G (.sl nl 1 (c.map byteP)) (.slice a0 len cap) := by
  rcases h with ⟨rfl, rfl, rfl⟩ | ⟨x, zs, rfl, hs, hb, hl, hz, hc, hw⟩
  · exact ⟨none, [], .nilsl _ _ (by simp)⟩
  · have hbd : ∀ i, i < zs.length → 0 ≤ zs.getD i 0 ∧ zs.getD i 0 < 256 := by
      intro i hi
      have hm : zs.getD i 0 ∈ zs := by simp [List.getD, List.getElem?_eq_getElem hi]
      have := hw _ hm
      generalize zs.getD i 0 = n at this ⊢
      simp [Lit.wf, IntKind.min, IntKind.max, IntKind.bits, IntKind.signed] at this
      omega
    let c : List (Fin 256) := (List.range len).map fun i => ⟨(zs.getD i 0).toNat % 256, Nat.mod_lt _ (by omega)⟩
    refine ⟨none, c, .sl none 1 _ x len cap (fun i _ => .int .u8 (zs.getD i 0)) (by simp) (fun _ => hs) (by simp [c]) hl (fun _ => hG _ hb) ?_ ?_ ?_⟩
    · intro i y hy
      simp only [List.getElem?_map] at hy
      cases hci : c[i]? with
      | none => rw [hci] at hy; simp at hy
      | some z =>
        rw [hci] at hy
        simp only [Option.map_some, Option.some.injEq] at hy
        subst hy
        exact fits_of rfl
    · intro i y j d hy hd
      simp only [List.getElem?_map] at hy
      cases hci : c[i]? with
      | none => rw [hci] at hy; simp at hy
      | some z =>
        rw [hci] at hy
        simp only [Option.map_some, Option.some.injEq] at hy
        subst hy
        have hi : i < len := by
          rcases Nat.lt_or_ge i len with h1 | h1
          · exact h1
          · have : c[i]? = none := List.getElem?_eq_none (by simp [c]; exact h1)
            rw [this] at hci; cases hci
        have hj : j = 0 := by
          cases j with
          | zero => rfl
          | succ j => simp [PV.cells] at hd
        subst hj
        have := hc i (by omega)
        rw [← this]
        congr 1
        obtain ⟨xb, xo, xs⟩ := x
        simp only at hs
        subst hs
        simp [Addr.add]
    · intro i y j d hy hd
      simp only [List.getElem?_map] at hy
      cases hci : c[i]? with
      | none => rw [hci] at hy; simp at hy
      | some z =>
        rw [hci] at hy
        simp only [Option.map_some, Option.some.injEq] at hy
        subst hy
        have hi : i < len := by
          rcases Nat.lt_or_ge i len with h1 | h1
          · exact h1
          · have : c[i]? = none := List.getElem?_eq_none (by simp [c]; exact h1)
            rw [this] at hci; cases hci
        have hj : j = 0 := by
          cases j with
          | zero => rfl
          | succ j => simp [PV.cells] at hd
        subst hj
        have hd2 : d = byteP z := by simpa [PV.cells] using hd.symm
        subst hd2
        have hz2 : ((z.val : Nat) : Int) = zs.getD i 0 := by
          have e : c[i]? = some ⟨(zs.getD i 0).toNat % 256, Nat.mod_lt _ (by omega)⟩ := by simp [c, hi]
          rw [e] at hci
          simp only [Option.some.injEq] at hci
          have hb := hbd i (by omega)
          rw [← hci]
          show (((zs.getD i 0).toNat % 256 : Nat) : Int) = _
          omega
        rw [← hz2]
        exact .int _ _

end Go.Vl

/- From a function's contract to the row of a law over lists of numbers, and numbers. -/
namespace Go.Vl
set_option linter.unusedVariables false
set_option linter.unusedSimpArgs false
open Go.RowKit Go.WideShapes Go.ChangeShapes

/-- The setting of a law's call. -/
def C0 (w : World) : Ctx := ⟨w, fun b => b < w.heap.size, 0, fun _ => default⟩
def G0 (w : World) : Bool → Nat → Prop := Gd (C0 w) [] (fun _ => default) w
theorem G0_of {w : World} {b : Nat} (h : b < w.heap.size) : G0 w false b := by
  refine ⟨h, ?_, fun _ => .inl h, fun e => by cases e⟩
  rintro ⟨id, ⟨r, hr, _⟩, _⟩
  simp at hr

theorem law_gen {P : Program} {f : FuncId} {w : World} {args : List SV} {vals : Array Value} (hl : vals.size = args.length)
    (hv : ∀ (j : Nat) (a : SV), args[j]? = some a → RS w (G0 w) (fun _ => default) 0 a (vals.getD j undef))
    (h : SatAt P f args [] (fun res rows => res = [bo true] ∧ rows = [])) :
    Calls P f vals w fun e w' => e = .returned (.bool true) ∧ Below w.heap.size w w' := by
  have hsim : SimM (C0 w) ⟨vals.size, enumE 0 args, []⟩ (fun _ => default) ⟨vals, []⟩ w := {
    defs := rfl
    size := rfl
    os := rfl
    tape := rfl
    output := rfl
    hsz := Nat.le_refl _
    old := fun _ _ _ => rfl
    bor := fun id hid => by cases hid
    nbl := Nat.zero_le _
    newb := fun id b _ ⟨r, hr, _⟩ => by simp at hr
    dist := fun i j b ⟨r, hr, _⟩ => by simp at hr
    rows := fun id r hr => by simp at hr
    env := fun t => by
      show RS _ _ _ _ (look (enumE 0 _) t) _
      rw [look_enumE]
      simp only [Nat.zero_le, if_true, Nat.sub_zero]
      cases ha : args[t]? with
      | none => exact .any _
      | some a => exact hv t a ha }
  refine (h (C0 w) (fun _ => default) vals rfl (fun b hb => hb) hl hsim).mono fun e w' hx => ?_
  obtain ⟨us, res, rows', m', rfl, hus, hs, rfl, rfl⟩ := hx
  have hv := hs.env 0
  have h1 : us.size = 1 := hus
  refine ⟨?_, hs.os, hs.tape, hs.output, hs.hsz, fun k hk => hs.old k hk (fun id hid => by cases hid)⟩
  have hv : RS w' (Gd (C0 w) [] m' w') m' 0 (bo true) (us.getD 0 undef) := hv
  have hb := hv.pv_inv
  unfold pack
  rw [dif_pos h1]
  simp only [Array.getD, h1, Nat.lt_succ_self, dif_pos, Nat.zero_lt_one] at hb
  cases hu : us[0]
  all_goals (simp only [Array.getInternal_eq_getElem, hu] at hb; cases hb)
  rfl

section
variable {H : Type} {enc : TypeId × Value → H} {P : Program} {w : World} {base : Nat} {held : Bool}
end
end Go.Vl

/- Arguments of any type of numbers, truth values, slices and structs, opened by their types. -/
namespace Go.Vl
set_option linter.unusedVariables false
set_option linter.unusedSimpArgs false
open Go.RowKit Go.ChangeShapes Go.WideShapes Go.ChangeAt

/-- A value of the type reads as one of the values that pv tells. -/
def Opens (P : Program) (t : TypeId) (k : Nat) {α : Type} (pv : α → PV) (good : α → Prop) : Prop :=
  ∀ (H : Type) (enc : TypeId × Value → H) (w : World) (base : Nat) (held : Bool) (fuel : Nat) (cs : List Value) (x : DataW H × List MemPlace), DataW.trod enc P w base (fun _ => true) held fuel t cs = some x →
    ∃ a, good a ∧ (pv a).fits k ∧ cs.length = k ∧ ∀ (j : Nat) (c : PV) (v : Value), (pv a).cells[j]? = some c → cs[j]? = some v → RP w (G0 w false) c v

def i64R (n : Int) : Prop := -9223372036854775808 ≤ n ∧ n ≤ 9223372036854775807

/-- A struct, field by field, from a place on. -/
def OpenF (P : Program) (off : Nat) (fs : List Field) (k : Nat) {α : Type} (cells : α → List PV) (good : α → Prop) : Prop :=
  ∀ (H : Type) (enc : TypeId × Value → H) (w : World) (base : Nat) (held : Bool) (fuel : Nat) (cs : List Value),
    (∀ (i : Nat) (f : Field), fs[i]? = some f → ∃ x, DataW.trod enc P w base (fun _ => true) held fuel f.type ((cs.drop f.offset).take (P.cellsOf f.type)) = some x) →
    ∃ a, good a ∧ (cells a).length = k ∧ (∀ c ∈ cells a, c.isAgg = false) ∧ ∀ (j : Nat) (c : PV) (v : Value), (cells a)[j]? = some c → ((cs.drop off).take k)[j]? = some v → RP w (G0 w false) c v

/-- The value of an argument of one cell. -/
theorem Opens.one {P : Program} {t : TypeId} {α : Type} {pv : α → PV} {good : α → Prop} (h : Opens P t 1 pv good) (hna : ∀ a, (pv a).cells = [pv a]) {H : Type} {enc : TypeId × Value → H} {w : World} {base : Nat} {held : Bool} {v : Value} {d : DataW H} {ps : List MemPlace} (hv : v.cells.toList = [v])
    (hd : DataW.Trod enc P w base (fun _ => true) held t v d ps) : ∃ a, good a ∧ RP w (G0 w false) (pv a) v := by
  obtain ⟨fuel, hf⟩ := hd
  rw [hv] at hf
  obtain ⟨a, g1, g2, g3, g4⟩ := h H enc w base held fuel _ _ hf
  exact ⟨a, g1, g4 0 _ _ (by rw [hna]; rfl) rfl⟩

/-- The value of an argument that is a struct. -/
theorem Opens.agg {P : Program} {t k : Nat} {α : Type} {cells : α → List PV} {good : α → Prop} (h : Opens P t k (fun a => .agg (cells a)) good) {H : Type} {enc : TypeId × Value → H} {w : World} {base : Nat} {held : Bool} {cs : Array Value} {d : DataW H} {ps : List MemPlace}
    (hd : DataW.Trod enc P w base (fun _ => true) held t (.agg cs) d ps) : ∃ a, good a ∧ RP w (G0 w false) (.agg (cells a)) (.agg cs) := by
  obtain ⟨fuel, hf⟩ := hd
  obtain ⟨a, g1, g2, g3, g4⟩ := h H enc w base held fuel _ _ hf
  refine ⟨a, g1, .agg _ _ ?_ (fun j c hc => g2.2 j c hc) (fun j c v hc hv => g4 j c v hc ?_)⟩
  · have h1 : (cells a).length = k := g2.1
    have h2 : cs.toList.length = k := g3
    rw [h1, ← h2]; simp
  · show cs.toList[j]? = some v
    simpa using hv
end Go.Vl

namespace Go.Vl
set_option linter.unusedVariables false
set_option linter.unusedSimpArgs false
open Go.Proofs

structure OpM where
  who : Int
  name : Int
  value : Int
  gone : Bool
  deriving Inhabited, DecidableEq
abbrev opP (o : OpM) : PV := .agg [.int .i64 o.who, .int .i64 o.name, .int .i64 o.value, .bool o.gone]
abbrev pairP (p : Int × Int) : PV := .agg [.int .i64 p.1, .int .i64 p.2]
structure InstM where
  shares : Bool
  order : List Int
  values : List Int
  own : List (Int × Int)
  deriving Inhabited, DecidableEq
abbrev instP (x : InstM) : PV := .agg [.bool x.shares, .sl none 1 (x.order.map intP), .sl none 1 (x.values.map intP), .sl none 2 (x.own.map pairP)]
structure HeapM where
  keys : List Int
  insts : List InstM
  deriving Inhabited, DecidableEq
abbrev heapP (h : HeapM) : PV := .agg [.sl none 1 (h.keys.map intP), .sl none 4 (h.insts.map instP)]
theorem getD_map0 {α β : Type} (f : α → β) (l : List α) (k : Nat) (d : α) (d' : β) (h : f d = d') : (l.map f).getD k d' = f (l.getD k d) := by
  subst h
  simp only [List.getD, List.getElem?_map]
  cases l[k]? <;> rfl
theorem getD_ops (l : List OpM) (k : Nat) : (l.map opP).getD k (.agg [.int .i64 0, .int .i64 0, .int .i64 0, .bool false]) = opP (l.getD k ⟨0, 0, 0, false⟩) := getD_map0 opP l k ⟨0, 0, 0, false⟩ _ rfl
theorem getD_pairs (l : List (Int × Int)) (k : Nat) : (l.map pairP).getD k (.agg [.int .i64 0, .int .i64 0]) = pairP (l.getD k (0, 0)) := getD_map0 pairP l k (0, 0) _ rfl
theorem getD_insts (l : List InstM) (k : Nat) : (l.map instP).getD k (.agg [.bool false, .sl none 1 [], .sl none 1 [], .sl none 2 []]) = instP (l.getD k ⟨false, [], [], []⟩) := getD_map0 instP l k ⟨false, [], [], []⟩ _ rfl
/-- A copy that is under way. -/
def cpy {α : Type} (d : α) (l : List α) (k : Nat) : List α := l.take k ++ List.replicate (l.length - k) d
def okOp (o : OpM) : Prop := (0 ≤ o.who ∧ o.who ≤ 3) ∧ (0 ≤ o.name ∧ o.name ≤ 9) ∧ (0 ≤ o.value ∧ o.value ≤ 99)
instance (o : OpM) : Decidable (okOp o) := by unfold okOp; exact inferInstance
def VOps (l : List OpM) : Prop := l.length ≤ 40 ∧ ∀ o ∈ l, okOp o
instance (l : List OpM) : Decidable (VOps l) := by unfold VOps; exact inferInstance

end Go.Vl

namespace Go.Vl
set_option linter.unusedVariables false
set_option linter.unusedSimpArgs false
open Go.Proofs
open Go.Proofs
end Go.Vl

namespace Go.Vl
set_option linter.unusedVariables false
set_option linter.unusedSimpArgs false
open Go.Proofs
open Go.Proofs
def nms (l : List (Int × Int)) : List Int := l.map Prod.fst
@[simp] theorem nms_len (l : List (Int × Int)) : (nms l).length = l.length := by simp [nms]
theorem take_nms (l : List (Int × Int)) (k : Nat) : (nms l).take k = nms (l.take k) := by simp [nms]
def SPairs (a b : List (Int × Int)) : Prop := a.length ≤ 40 ∧ (nms a).Nodup ∧ a.length = b.length ∧ ∀ p ∈ a, p ∈ b
instance (a b : List (Int × Int)) : Decidable (SPairs a b) := by unfold SPairs; exact inferInstance
end Go.Vl

namespace Go.Vl
set_option linter.unusedVariables false
set_option linter.unusedSimpArgs false
open Go.Proofs

structure AttrM where
  name : Int
  kind : Int
  value : Int
  deriving Inhabited, DecidableEq
abbrev attrP (a : AttrM) : PV := .agg [.int .i64 a.name, .int .i64 a.kind, .int .i64 a.value]
abbrev attrsP (l : List AttrM) : PV := .sl none 3 (l.map attrP)
structure ObjM where
  cls : Int
  pairs : List (Int × Int)
  deriving Inhabited, DecidableEq
abbrev objP (o : ObjM) : PV := .agg [.int .i64 o.cls, .sl none 2 (o.pairs.map pairP)]
structure WorldM where
  bases : List (List Int)
  attrs : List (List AttrM)
  objs : List ObjM
  deriving Inhabited, DecidableEq
abbrev worldP (w : WorldM) : PV := .agg [.sl none 1 (w.bases.map ints), .sl none 1 (w.attrs.map attrsP), .sl none 2 (w.objs.map objP)]
theorem getD_attrs (l : List AttrM) (k : Nat) : (l.map attrP).getD k (.agg [.int .i64 0, .int .i64 0, .int .i64 0]) = attrP (l.getD k ⟨0, 0, 0⟩) := getD_map0 attrP l k ⟨0, 0, 0⟩ _ rfl
theorem getD_attrss (l : List (List AttrM)) (k : Nat) : (l.map attrsP).getD k (.sl none 3 []) = attrsP (l.getD k []) := getD_map0 attrsP l k [] _ rfl
theorem getD_objs (l : List ObjM) (k : Nat) : (l.map objP).getD k (.agg [.int .i64 0, .sl none 2 []]) = objP (l.getD k ⟨0, []⟩) := getD_map0 objP l k ⟨0, []⟩ _ rfl
open Go.Proofs
def GO63 (x : ObjM) : Prop := x.pairs.length ≤ 9223372036854775807
def GW63 (w : WorldM) : Prop := (w.bases.length ≤ 9223372036854775807 ∧ ∀ l ∈ w.bases, l.length ≤ 9223372036854775807) ∧ (w.attrs.length ≤ 9223372036854775807 ∧ ∀ l ∈ w.attrs, l.length ≤ 9223372036854775807) ∧ w.objs.length ≤ 9223372036854775807 ∧ ∀ o ∈ w.objs, GO63 o
def SO (x : ObjM) : Prop := x.pairs.length ≤ 2000000
def SW (w : WorldM) : Prop := (w.bases.length ≤ 2000000 ∧ ∀ l ∈ w.bases, l.length ≤ 2000000) ∧ (w.attrs.length ≤ 2000000 ∧ ∀ l ∈ w.attrs, l.length ≤ 2000000) ∧ w.objs.length ≤ 2000000 ∧ ∀ o ∈ w.objs, SO o
end Go.Vl

namespace Go.Vl
set_option linter.unusedVariables false
set_option linter.unusedSimpArgs false
open Go.Proofs

/-- The places of the values that are there. -/
def plc (vs : List Int) (k : Nat) : List Int := ((List.range k).filter fun i => decide (vs.getD i 0 ≠ -1)).map Int.ofNat
def TPl (order vs : List Int) : Prop := (∀ x ∈ plc vs vs.length, x ∈ order) ∧ order.length = (plc vs vs.length).length
instance (a b : List Int) : Decidable (TPl a b) := by unfold TPl; exact inferInstance
def okPair (p : Int × Int) : Prop := (0 ≤ p.1 ∧ p.1 ≤ 9) ∧ (0 ≤ p.2 ∧ p.2 ≤ 99)
instance (p : Int × Int) : Decidable (okPair p) := by unfold okPair; exact inferInstance
def AOwn (l : List (Int × Int)) : Prop := (nms l).Nodup ∧ ∀ p ∈ l, okPair p
instance (l : List (Int × Int)) : Decidable (AOwn l) := by unfold AOwn; exact inferInstance
def AShared (vs : List Int) : Prop := (∀ v ∈ vs, -1 ≤ v ∧ v ≤ 99) ∧ (vs.length = 0 ∨ 0 ≤ vs.getD (vs.length - 1) 0)
instance (l : List Int) : Decidable (AShared l) := by unfold AShared; exact inferInstance
def VInst (n : Nat) (x : InstM) : Prop := if x.shares = true then x.own.length = 0 ∧ x.values.length ≤ n ∧ AShared x.values ∧ TPl x.order x.values else x.order.length = 0 ∧ x.values.length = 0 ∧ AOwn x.own
instance (n : Nat) (x : InstM) : Decidable (VInst n x) := by unfold VInst; exact inferInstance
def VHeap (h : HeapM) : Prop := (h.keys.length ≤ 5 ∧ h.keys.Nodup) ∧ (∀ k ∈ h.keys, 0 ≤ k ∧ k ≤ 9) ∧ h.insts.length = 4 ∧ ∀ x ∈ h.insts, VInst h.keys.length x
instance (h : HeapM) : Decidable (VHeap h) := by unfold VHeap; exact inferInstance
/-- What trimming leaves. -/
def TrM (vs : List Int) (m : Nat) : Prop := m ≤ vs.length ∧ (∀ i, m ≤ i → i < vs.length → vs.getD i 0 = -1) ∧ (m = 0 ∨ vs.getD (m - 1) 0 ≠ -1)
end Go.Vl

namespace Go.Vl
set_option linter.unusedVariables false
set_option linter.unusedSimpArgs false
open Go.Proofs

end Go.Vl

namespace Go.Vl
set_option linter.unusedVariables false
set_option linter.unusedSimpArgs false
open Go.Proofs
end Go.Vl

namespace Go.Vl
set_option linter.unusedVariables false
set_option linter.unusedSimpArgs false
open Go.Proofs
end Go.Vl

namespace Go.Vl
set_option linter.unusedVariables false
set_option linter.unusedSimpArgs false
open Go.Proofs
end Go.Vl

namespace Go.Vl
set_option linter.unusedVariables false
set_option linter.unusedSimpArgs false
open Go.Proofs
theorem tot_le {K : Nat} : ∀ {ls : List (List Int)}, (∀ l ∈ ls, l.length ≤ K) → tot ls ≤ ls.length * K
  | [], _ => Nat.zero_le _
  | a :: r, h => by
    have h1 := tot_le (ls := r) (fun l hl => h l (List.mem_cons_of_mem _ hl))
    have h2 := h a List.mem_cons_self
    simp only [tot, List.map_cons, List.sum_cons, List.length_cons, Nat.add_mul] at h1 ⊢
    omega
theorem OKLs.tot {ls : List (List Int)} (h : OKLs ls) : tot ls < 1000000000 := by
  have h1 := tot_le (K := 12) (ls := ls) (fun l hl => by have := (h.1 l hl).1; omega)
  have := h.2
  omega
def mgOK (ls : List (List Int)) : Prop := OKLs ls ∧ hds (mergeM ls).2 = []
instance {ls : List (List Int)} : Decidable (mgOK ls) := by unfold mgOK; infer_instance
def mgR (ls : List (List Int)) : List Int := if mgOK ls then (mergeM ls).1 else []
def skR (ls : List (List Int)) : List Int := if OKLs ls then onceF [] (hds (mergeM ls).2) else []
end Go.Vl

namespace Go.Vl
set_option linter.unusedVariables false
set_option linter.unusedSimpArgs false
open Go.Proofs
end Go.Vl

namespace Go.Vl
set_option linter.unusedVariables false
set_option linter.unusedSimpArgs false
open Go.Proofs

end Go.Vl

namespace Go.Vl
set_option linter.unusedVariables false
set_option linter.unusedSimpArgs false
open Go.Proofs
/-- Orders. -/
def ordL (o : List (List Int)) (l : List Int) : List (List Int) := l.map (fun x => o.getD x.toNat [])
def ordS (o : List (List Int)) (l : List Int) (c : Int) : List Int :=
  if ∃ x ∈ l, o.getD x.toNat [] = [] then [] else if hds (mergeM (ordL o l ++ [l])).2 = [] then c :: (mergeM (ordL o l ++ [l])).1 else []
def ordT (b : List (List Int)) : Nat → List (List Int)
  | 0 => []
  | n+1 => ordT b n ++ [ordS (ordT b n) (b.getD n []) n]
def ordM (b : List (List Int)) (c : Nat) : List Int := ordS (ordT b c) (b.getD c []) c
def OKord (o : List Int) (c : Nat) : Prop := o.Nodup ∧ ∀ x ∈ o, 0 ≤ x ∧ x ≤ c
theorem VB.at {b : List (List Int)} (h : VB b) {c : Nat} (hc : c < b.length) : (b.getD c []).length ≤ 4 ∧ (b.getD c []).Nodup ∧ ∀ x ∈ b.getD c [], 0 ≤ x ∧ x ≤ (c : Int) - 1 := ((vb_iff b).1 h).2 c hc |>.2
end Go.Vl

namespace Go.Vl
set_option linter.unusedVariables false
set_option linter.unusedSimpArgs false
open Go.Proofs
end Go.Vl

namespace Go.Vl
set_option linter.unusedVariables false
set_option linter.unusedSimpArgs false
open Go.Proofs
abbrev ordP (l : List Int) : PV := .sl (some l.isEmpty) 1 (l.map intP)
def orOK (b : List (List Int)) (c : Int) : Prop := (VB b ∧ 0 ≤ c ∧ c < b.length) ∧ ordM b c.toNat ≠ []
instance {b : List (List Int)} {c : Int} : Decidable (orOK b c) := by unfold orOK; infer_instance
def orR (b : List (List Int)) (c : Int) : List Int := if orOK b c then ordM b c.toNat else []
theorem getD_ordP (o : List (List Int)) (k : Nat) : (o.map ordP).getD k (.sl (some true) 1 []) = .sl (some (o.getD k []).isEmpty) 1 ((o.getD k []).map intP) := by
  simp only [List.getD, List.getElem?_map]
  cases o[k]? <;> rfl
end Go.Vl

namespace Go.Vl
set_option linter.unusedVariables false
set_option linter.unusedSimpArgs false
open Go.Proofs
end Go.Vl

namespace Go.Vl
set_option linter.unusedVariables false
set_option linter.unusedSimpArgs false
open Go.Proofs

end Go.Vl

namespace Go.Vl
set_option linter.unusedVariables false
set_option linter.unusedSimpArgs false
open Go.Proofs
def allOK (b : List (List Int)) : Prop := VB b ∧ ∀ i, i < b.length → ordM b i ≠ []
instance {b : List (List Int)} : Decidable (allOK b) := by unfold allOK; infer_instance
end Go.Vl

namespace Go.Vl
set_option linter.unusedVariables false
set_option linter.unusedSimpArgs false
open Go.Proofs
def anms (l : List AttrM) : List Int := l.map AttrM.name
@[simp] theorem anms_len (l : List AttrM) : (anms l).length = l.length := by simp [anms]
theorem take_anms (l : List AttrM) (k : Nat) : (anms l).take k = anms (l.take k) := by simp [anms]
def okAttr (a : AttrM) : Prop := (0 ≤ a.name ∧ a.name ≤ 9) ∧ (0 ≤ a.kind ∧ a.kind ≤ 5) ∧ (0 ≤ a.value ∧ a.value ≤ 99)
instance (a : AttrM) : Decidable (okAttr a) := by unfold okAttr; exact inferInstance
def AAttrs (l : List AttrM) : Prop := l.length ≤ 8 ∧ (anms l).Nodup ∧ ∀ a ∈ l, okAttr a
instance (l : List AttrM) : Decidable (AAttrs l) := by unfold AAttrs; exact inferInstance
def okObj (n : Nat) (o : ObjM) : Prop := (0 ≤ o.cls ∧ o.cls ≤ (n : Int) - 1) ∧ o.pairs.length ≤ 8 ∧ AOwn o.pairs
instance (n : Nat) (o : ObjM) : Decidable (okObj n o) := by unfold okObj; exact inferInstance
def VWorld (w : WorldM) : Prop := allOK w.bases ∧ w.attrs.length = w.bases.length ∧ w.objs.length ≤ 6 ∧ (∀ l ∈ w.attrs, AAttrs l) ∧ ∀ o ∈ w.objs, okObj w.bases.length o
instance (w : WorldM) : Decidable (VWorld w) := by unfold VWorld; exact inferInstance

end Go.Vl

namespace Go.Vl
set_option linter.unusedVariables false
set_option linter.unusedSimpArgs false
open Go.Proofs

end Go.Vl

namespace Go.Vl
set_option linter.unusedVariables false
set_option linter.unusedSimpArgs false
open Go.Proofs

end Go.Vl

/- A cell of a variable that holds a nil slice holds a row of the call's own that is empty. -/
namespace Go.Vl
set_option linter.unusedVariables false
set_option linter.unusedSimpArgs false
open Go.RowKit
section
variable {P : Program} {C : Ctx} {Q : Go.Exit → St → Prop} {s : St} {ops : Array Oper}

end
end Go.Vl

/- Cells of rows whose slices are their own: a plain one is written; a slice in one is lent to a function, which may write it. -/
namespace Go.Vl
set_option linter.unusedVariables false
set_option linter.unusedSimpArgs false
open Go.RowKit

section
variable {P : Program} {C : Ctx} {Q : Go.Exit → St → Prop} {s : St} {ops : Array Oper} {rest : List Oper} {t : Nat} {ty : TypeId} {pos : String} {af : Array Edge}

end
end Go.Vl

/- Numbers that are written into the cells of lists, one by one (pure). -/
namespace Go.Vl
set_option linter.unusedVariables false
set_option linter.unusedSimpArgs false

def mkS {α : Type} (f : Int → α → α) (g : Int → α → Int) : Int → List α → List α
  | _, [] => []
  | k, x :: r => f k x :: mkS f g (g k x) r
def mkN {α : Type} (g : Int → α → Int) : Int → List α → Int
  | k, [] => k
  | k, x :: r => mkN g (g k x) r
section
variable {α : Type} {f : Int → α → α} {g : Int → α → Int}
end
end Go.Vl
namespace Go.Vl
end Go.Vl

/- More operations: the room of a nil slice, 'append(nil, make(..)...)', cells that hold a function. -/
namespace Go.Vl
set_option linter.unusedVariables false
set_option linter.unusedSimpArgs false
open Go.RowKit
section
variable {P : Program} {C : Ctx} {Q : Go.Exit → St → Prop} {s : St}
variable {ops : Array Oper} {rest : List Oper} {t : Nat} {ty : TypeId} {pos : String} {af : Array Edge}

def goneL (xs : List PV) : List PV := xs.map fun _ => .gone
end
end Go.Vl

namespace Go.Vl
set_option linter.unusedVariables false
set_option linter.unusedSimpArgs false
open Go.Proofs

structure WorksM where
  bases : List (List Int)
  abs : List (List Int)
  real : List (List Int)
  deriving Inhabited, DecidableEq
abbrev worksP (w : WorksM) : PV := .agg [.sl none 1 (w.bases.map ints), .sl none 1 (w.abs.map ints), .sl none 1 (w.real.map ints)]
def GK63 (w : WorksM) : Prop := (w.bases.length ≤ 9223372036854775807 ∧ ∀ l ∈ w.bases, l.length ≤ 9223372036854775807) ∧ (w.abs.length ≤ 9223372036854775807 ∧ ∀ l ∈ w.abs, l.length ≤ 9223372036854775807) ∧ (w.real.length ≤ 9223372036854775807 ∧ ∀ l ∈ w.real, l.length ≤ 9223372036854775807)
def SK (w : WorksM) : Prop := (w.bases.length ≤ 2000000 ∧ ∀ l ∈ w.bases, l.length ≤ 2000000) ∧ (w.abs.length ≤ 2000000 ∧ ∀ l ∈ w.abs, l.length ≤ 2000000) ∧ (w.real.length ≤ 2000000 ∧ ∀ l ∈ w.real, l.length ≤ 2000000)
def okWk (a r : List Int) : Prop := (a ++ r).Nodup ∧ ∀ n ∈ a ++ r, 0 ≤ n ∧ n ≤ 9
instance (a r : List Int) : Decidable (okWk a r) := by unfold okWk; exact inferInstance
def VWorks (x : WorksM) : Prop := allOK x.bases ∧ x.abs.length = x.bases.length ∧ x.real.length = x.bases.length ∧ ∀ i, i < x.bases.length → okWk (x.abs.getD i []) (x.real.getD i [])
instance (x : WorksM) : Decidable (VWorks x) := by unfold VWorks; exact inferInstance
end Go.Vl

namespace Go.Vl
set_option linter.unusedVariables false
set_option linter.unusedSimpArgs false
open Go.Proofs

end Go.Vl

namespace Go.Vl
set_option linter.unusedVariables false
set_option linter.unusedSimpArgs false
open Go.Proofs

/-- A reader that has given p numbers. -/
abbrev rdr (nl : Option Bool) (c : List (Fin 256)) (p : Nat) : Row := .var 118 [.pv false (.sl nl 1 (c.map byteP)), i64 p]
/-- Bases as the readers make them. -/
def SB (B : List (List Int)) : Prop := 1 ≤ B.length ∧ B.getD 0 [] = [] ∧ ∀ i, i < B.length → 0 < i → B.getD i [] ≠ [] ∧ (B.getD i []).length ≤ 3 ∧ (B.getD i []).Nodup ∧ ∀ x ∈ B.getD i [], 0 ≤ x ∧ x < i
theorem getD_app {α : Type} {l l' : List α} {i : Nat} (h : i < l.length) (d : α) : (l ++ l').getD i d = l.getD i d := by simp [List.getD, List.getElem?_append_left h]
theorem getD_end {α : Type} {l : List α} {x : α} (d : α) : (l ++ [x]).getD l.length d = x := by simp [List.getD]
theorem nodup_snoc {l : List Int} {x : Int} (h : l.Nodup) (hx : x ∉ l) : (l ++ [x]).Nodup := by
  rw [List.nodup_append]; exact ⟨h, by simp, fun a ha b hb e => hx (by rw [List.mem_singleton.1 hb] at e; exact e ▸ ha)⟩
theorem SB.snoc {B : List (List Int)} {l : List Int} (h : SB B) (h1 : l ≠ []) (h2 : l.length ≤ 3) (h3 : l.Nodup) (h4 : ∀ x ∈ l, 0 ≤ x ∧ x < B.length) : SB (B ++ [l]) := by
  obtain ⟨a1, a2, a3⟩ := h
  refine ⟨by simp, by rw [getD_app (by omega)]; exact a2, fun i hi h0 => ?_⟩
  rcases Nat.lt_or_ge i B.length with hb | hb
  · rw [getD_app hb]; exact a3 i hb h0
  · have : i = B.length := by simp at hi; omega
    subst this
    rw [getD_end]
    exact ⟨h1, h2, h3, h4⟩
theorem SB.lens {B : List (List Int)} (h : SB B) : ∀ l ∈ B, l.length ≤ 3 := by
  intro l hl
  obtain ⟨i, hi, rfl⟩ := List.getElem_of_mem hl
  have e : B[i] = B.getD i [] := by simp [List.getD, List.getElem?_eq_getElem hi]
  rw [e]
  rcases Nat.eq_zero_or_pos i with rfl | h0
  · rw [h.2.1]; simp
  · exact (h.2.2 i hi h0).2.1

theorem newReader_sat {nl : Option Bool} {c : List (Fin 256)} (hl : c.length < 1000000000) : SatAt Try.prog 56 [.pv false (.sl nl 1 (c.map byteP))] [] (fun res rows => ∃ nl2 c2, c2.length ≤ 2000 ∧ res = [.ptr 0 0 0 0] ∧ rows = [rdr nl2 c2 0]) := by
 refine sat_entry_g (ts := [2]) Try.func56 rfl rfl (by decide) (Nat.le_of_ble_eq_true rfl) fun C hC => ?_
 rw [Try.ntmps56]
 replace hC : C.nb = 0 := hC
 refine vc_seq fun K1 hK1 => ?_
 refine vc_region ?_
 refine vo_assign rfl ?_
 refine vo_nil ?_
 refine hK1 _ ?_
 refine vc_seq fun K2 hK2 => ?_
 refine vc_seq fun K3 hK3 => ?_
 refine vc_region ?_
 refine vo_move_pv rfl rfl ?_
 refine vo_len_pv rfl rfl Try.underlying22 ?_
 refine vo_binI rfl rfl rfl rfl trivial ?_
 refine vo_nil ?_
 refine hK3 _ ?_
 refine vc_cond rfl (fun hc1 => ?_) (fun hc1 => ?_)
 ·try simp only [zq0, zq1, zq2, zq3, zq4, zq5, zq6, zq7, zq8, zq9, zqa, zqb, zqc, zqd, zqe, zqf] at hc1
  refine vc_region ?_
  refine vo_move_pv rfl rfl ?_
  refine vo_slice_pv rfl rfl rfl rfl E22.und inf5 sz5 sd sd sd ?_
  simp only [Int.toNat_natCast, Int.toNat_zero, List.drop_zero, Nat.sub_zero, ← List.map_drop, ← List.map_take]
  refine vo_assign_pv rfl rfl ?_
  refine vo_nil ?_
  refine hK2 _ ?_
  refine vc_seq fun K4 hK4 => ?_
  refine vc_region ?_
  refine vo_move_pv rfl rfl ?_
  refine vo_build S118 rfl rfl rfl ?_
  refine vo_box rfl rfl ?_
  refine vo_assign_ptr rfl rfl ?_
  refine vo_nil ?_
  refine hK4 _ ?_
  refine vc_ret ?_
  change retG _ _ _ _ _
  refine retG_one 0 hC rfl rfl rfl rfl rfl ?_
  refine ⟨_, _, ?_, rfl, rfl⟩
  first | omega | (simp; omega)
 ·try simp only [zq0, zq1, zq2, zq3, zq4, zq5, zq6, zq7, zq8, zq9, zqa, zqb, zqc, zqd, zqe, zqf] at hc1
  refine vc_skip ?_
  refine hK2 _ ?_
  refine vc_seq fun K5 hK5 => ?_
  refine vc_region ?_
  refine vo_move_pv rfl rfl ?_
  refine vo_build S118 rfl rfl rfl ?_
  refine vo_box rfl rfl ?_
  refine vo_assign_ptr rfl rfl ?_
  refine vo_nil ?_
  refine hK5 _ ?_
  refine vc_ret ?_
  change retG _ _ _ _ _
  refine retG_one 0 hC rfl rfl rfl rfl rfl ?_
  refine ⟨_, _, ?_, rfl, rfl⟩
  first | omega | (simp; omega)


theorem pick_sat {nl : Option Bool} {c : List (Fin 256)} {p : Nat} {n : Int} (hc : c.length ≤ 2000) (hp : p < 1000000) : SatAt Try.prog 74 [.ptr 0 0 0 0, i64 n] [rdr nl c p] (fun res rows => ∃ x, (0 ≤ x ∧ (1 ≤ n → x < n)) ∧ res = [i64 x] ∧ rows = [rdr nl c (p + 1)]) := by
 have hL : ((c.map byteP).length : Int) = c.length := by simp
 refine sat_entry_g (ts := [4]) Try.func74 rfl rfl (by decide) (Nat.le_of_ble_eq_true rfl) fun C hC => ?_
 rw [Try.ntmps74]
 replace hC : C.nb = 1 := hC
 refine vc_seq fun K1 hK1 => ?_
 refine vc_region ?_
 refine vo_assign_pv rfl rfl ?_
 refine vo_nil ?_
 refine hK1 _ ?_
 refine vc_seq fun K2 hK2 => ?_
 refine vc_region ?_
 refine vo_move_ptr rfl rfl ?_
 refine vo_move_ptr rfl rfl ?_
 refine vo_nilCheck_ptr rfl rfl ?_
 refine vo_fieldAddr_ptr rfl rfl Try.underlying118 rfl inf3 (by rw [sz3]; decide) ?_
 refine vo_load_var rfl rfl rfl Try.underlying3 rfl rfl ?_
 refine vo_binI rfl rfl rfl rfl sd ?_
 refine vo_nilCheck_ptr rfl rfl ?_
 refine vo_fieldAddr_ptr rfl rfl Try.underlying118 rfl inf3 (by rw [sz3]; decide) ?_
 refine vo_store_var rfl rfl rfl rfl inf3 sz3 rfl ?_
 refine vo_nil ?_
 refine hK2 _ ?_
 refine vc_seq fun K3 hK3 => ?_
 refine vc_seq fun K4 hK4 => ?_
 refine vc_region ?_
 refine vo_move_pv rfl rfl ?_
 refine vo_binI rfl rfl rfl rfl trivial ?_
 refine vo_move_pv rfl rfl ?_
 refine vo_split 17 rfl (fun hg1 => ?_) (fun hg1 => ?_)
 ·try simp only [zq0, zq1, zq2, zq3, zq4, zq5, zq6, zq7, zq8, zq9, zqa, zqb, zqc, zqd, zqe, zqf] at hg1
  refine vo_guard_off rfl rfl rfl rfl rfl ?_
  refine vo_guard_off rfl rfl rfl rfl rfl ?_
  refine vo_guard_off rfl rfl rfl rfl rfl ?_
  refine vo_guard_off rfl rfl rfl rfl rfl ?_
  refine vo_guard_off rfl rfl rfl rfl rfl ?_
  refine vo_guard_off rfl rfl rfl rfl rfl ?_
  refine vo_pick_t rfl rfl ?_
  refine vo_nil ?_
  refine hK4 _ ?_
  refine vc_cond_t rfl ?_
  refine vc_seq fun K5 hK5 => ?_
  refine vc_region ?_
  refine vo_assign_pv rfl rfl ?_
  refine vo_nil ?_
  refine hK5 _ ?_
  refine vc_ret ?_
  change retG _ _ _ _ _
  refine retG_sel [] [] hC rfl rfl rfl rfl rfl rfl ?_
  exact ⟨_, ⟨by omega, by omega⟩, rfl, rfl⟩
 ·try simp only [zq0, zq1, zq2, zq3, zq4, zq5, zq6, zq7, zq8, zq9, zqa, zqb, zqc, zqd, zqe, zqf] at hg1
  refine vo_guard_on rfl rfl rfl ?_
  refine vo_move_ptr rfl rfl ?_
  refine vo_guard_on rfl rfl rfl ?_
  refine vo_nilCheck_ptr rfl rfl ?_
  refine vo_guard_on rfl rfl rfl ?_
  refine vo_fieldAddr_ptr rfl rfl Try.underlying118 rfl inf22 (by rw [sz22]; decide) ?_
  refine vo_guard_on rfl rfl rfl ?_
  refine vo_load_var rfl rfl rfl Try.underlying22 rfl rfl ?_
  refine vo_guard_on rfl rfl rfl ?_
  refine vo_len_pv rfl rfl Try.underlying22 ?_
  refine vo_guard_on rfl rfl rfl ?_
  refine vo_binI rfl rfl rfl rfl trivial ?_
  refine vo_pick_f rfl rfl ?_
  refine vo_nil ?_
  refine hK4 _ ?_
  refine vc_cond rfl (fun hc2 => ?_) (fun hc2 => ?_)
  ·try simp only [zq0, zq1, zq2, zq3, zq4, zq5, zq6, zq7, zq8, zq9, zqa, zqb, zqc, zqd, zqe, zqf] at hc2
   refine vc_seq fun K6 hK6 => ?_
   refine vc_region ?_
   refine vo_assign_pv rfl rfl ?_
   refine vo_nil ?_
   refine hK6 _ ?_
   refine vc_ret ?_
   change retG _ _ _ _ _
   refine retG_sel [] [] hC rfl rfl rfl rfl rfl rfl ?_
   exact ⟨_, ⟨by omega, by omega⟩, rfl, rfl⟩
  ·try simp only [zq0, zq1, zq2, zq3, zq4, zq5, zq6, zq7, zq8, zq9, zqa, zqb, zqc, zqd, zqe, zqf] at hc2
   refine vc_skip ?_
   refine hK3 _ ?_
   refine vc_seq fun K7 hK7 => ?_
   refine vc_region ?_
   refine vo_move_ptr rfl rfl ?_
   refine vo_nilCheck_ptr rfl rfl ?_
   refine vo_fieldAddr_ptr rfl rfl Try.underlying118 rfl inf3 (by rw [sz3]; decide) ?_
   refine vo_load_var rfl rfl rfl Try.underlying3 rfl rfl ?_
   refine vo_binI rfl rfl rfl rfl sd ?_
   refine vo_assign_pv rfl rfl ?_
   refine vo_nil ?_
   refine hK7 _ ?_
   refine vc_seq fun K8 hK8 => ?_
   refine vc_seq fun K9 hK9 => ?_
   refine vc_region ?_
   refine vo_move_pv rfl rfl ?_
   refine vo_move_ptr rfl rfl ?_
   refine vo_nilCheck_ptr rfl rfl ?_
   refine vo_fieldAddr_ptr rfl rfl Try.underlying118 rfl inf22 (by rw [sz22]; decide) ?_
   refine vo_load_var rfl rfl rfl Try.underlying22 rfl rfl ?_
   refine vo_len_pv rfl rfl Try.underlying22 ?_
   refine vo_binI rfl rfl rfl rfl trivial ?_
   refine vo_nil ?_
   refine hK9 _ ?_
   refine vc_cond rfl (fun hc3 => ?_) (fun hc3 => ?_)
   ·try simp only [zq0, zq1, zq2, zq3, zq4, zq5, zq6, zq7, zq8, zq9, zqa, zqb, zqc, zqd, zqe, zqf] at hc3
    refine vc_seq fun K10 hK10 => ?_
    refine vc_region ?_
    refine vo_move_ptr rfl rfl ?_
    refine vo_nilCheck_ptr rfl rfl ?_
    refine vo_fieldAddr_ptr rfl rfl Try.underlying118 rfl inf22 (by rw [sz22]; decide) ?_
    refine vo_load_var rfl rfl rfl Try.underlying22 rfl rfl ?_
    refine vo_move_pv rfl rfl ?_
    refine vo_index_pv (.int .u8 0) rfl rfl rfl E22.und inf5 sz5 sd sd ?_
    simp only [Int.toNat_natCast, Int.toNat_zero, getD_ints, getD_intss, getD_bools, getD_bytes, PV.cells]
    refine vo_load_adr rfl rfl Try.underlying5 rfl ?_
    refine vo_convI rfl rfl Try.underlying5 Try.underlying3 sd ?_
    refine vo_move_pv rfl rfl ?_
    refine vo_binI rfl rfl rfl rfl sd ?_
    refine vo_assign_pv rfl rfl ?_
    refine vo_nil ?_
    refine hK10 _ ?_
    refine vc_ret ?_
    change retG _ _ _ _ _
    refine retG_sel [] [] hC rfl rfl rfl rfl rfl rfl ?_
    exact ⟨_, ⟨Int.emod_nonneg _ (by omega), fun h => Int.emod_lt_of_pos _ (by omega)⟩, rfl, rfl⟩
   ·try simp only [zq0, zq1, zq2, zq3, zq4, zq5, zq6, zq7, zq8, zq9, zqa, zqb, zqc, zqd, zqe, zqf] at hc3
    have e1 : 0 ≤ ((p : Int) + 1 - 1) % ((c.map byteP).length : Int) := Int.emod_nonneg _ (by omega)
    have e2 : ((p : Int) + 1 - 1) % ((c.map byteP).length : Int) < ((c.map byteP).length : Int) := Int.emod_lt_of_pos _ (by omega)
    have e3 : 0 ≤ (((p : Int) + 1 - 1) * 7 + 3) % ((c.map byteP).length : Int) := Int.emod_nonneg _ (by omega)
    have e4 : (((p : Int) + 1 - 1) * 7 + 3) % ((c.map byteP).length : Int) < ((c.map byteP).length : Int) := Int.emod_lt_of_pos _ (by omega)
    have e5 : 0 ≤ ((p : Int) + 1 - 1) / ((c.map byteP).length : Int) := Int.ediv_nonneg (by omega) (by omega)
    have e6 : ((p : Int) + 1 - 1) / ((c.map byteP).length : Int) ≤ (p : Int) + 1 - 1 := Int.ediv_le_self _ (by omega)
    refine vc_skip ?_
    refine hK8 _ ?_
    refine vc_seq fun K11 hK11 => ?_
    refine vc_draw (by kernel_rfl) ?_
    change VD _ _ _ 46 _ _ _
    refine vd_light 0 rfl rfl rfl (by kernel_rfl) (by kernel_rfl) (by kernel_rfl) (wnt_none rfl) (lt_move_ptr rfl) ?_
    refine vd_light 1 rfl rfl rfl (by kernel_rfl) (by kernel_rfl) (by kernel_rfl) (wnt_none rfl) (lt_nilCheck_ptr rfl) ?_
    refine vd_light 2 rfl rfl rfl (by kernel_rfl) (by kernel_rfl) (by kernel_rfl) (wnt_none rfl) (lt_fieldAddr_ptr rfl Try.underlying118 rfl inf22 (by rw [sz22]; decide)) ?_
    refine vd_light 3 rfl rfl rfl (by kernel_rfl) (by kernel_rfl) (by kernel_rfl) (wnt_none rfl) (lt_load_var rfl rfl Try.underlying22 rfl rfl) ?_
    refine vd_light 4 rfl rfl rfl (by kernel_rfl) (by kernel_rfl) (by kernel_rfl) (wnt_none rfl) (lt_move_pv rfl) ?_
    refine vd_light 5 rfl rfl rfl (by kernel_rfl) (by kernel_rfl) (by kernel_rfl) (wnt_none rfl) (lt_move_ptr rfl) ?_
    refine vd_light 6 rfl rfl rfl (by kernel_rfl) (by kernel_rfl) (by kernel_rfl) (wnt_none rfl) (lt_nilCheck_ptr rfl) ?_
    refine vd_light 7 rfl rfl rfl (by kernel_rfl) (by kernel_rfl) (by kernel_rfl) (wnt_none rfl) (lt_fieldAddr_ptr rfl Try.underlying118 rfl inf22 (by rw [sz22]; decide)) ?_
    refine vd_light 8 rfl rfl rfl (by kernel_rfl) (by kernel_rfl) (by kernel_rfl) (wnt_none rfl) (lt_load_var rfl rfl Try.underlying22 rfl rfl) ?_
    refine vd_light 9 rfl rfl rfl (by kernel_rfl) (by kernel_rfl) (by kernel_rfl) (wnt_none rfl) (lt_len_pv rfl Try.underlying22) ?_
    refine vd_light 10 rfl rfl rfl (by kernel_rfl) (by kernel_rfl) (by kernel_rfl) (wnt_none rfl) (lt_binI rfl rfl rfl sd) ?_
    refine vd_light 11 rfl rfl rfl (by kernel_rfl) (by kernel_rfl) (by kernel_rfl) (wnt_none rfl) (lt_index_pv (.int .u8 0) rfl rfl E22.und inf5 sz5 sd sd) ?_
    simp only [Int.toNat_natCast, Int.toNat_zero, getD_ints, getD_intss, getD_bools, getD_bytes, PV.cells]
    refine vd_light 12 rfl rfl rfl (by kernel_rfl) (by kernel_rfl) (by kernel_rfl) (wnt_none rfl) (lt_load_adr rfl Try.underlying5 rfl) ?_
    refine vd_light 13 rfl rfl rfl (by kernel_rfl) (by kernel_rfl) (by kernel_rfl) (wnt_none rfl) (lt_convI rfl Try.underlying5 Try.underlying3 sd) ?_
    refine vd_light 14 rfl rfl rfl (by kernel_rfl) (by kernel_rfl) (by kernel_rfl) (wnt_none rfl) (lt_binI rfl rfl rfl sd) ?_
    refine vd_light 15 rfl rfl rfl (by kernel_rfl) (by kernel_rfl) (by kernel_rfl) (wnt_none rfl) (lt_move_ptr rfl) ?_
    refine vd_light 16 rfl rfl rfl (by kernel_rfl) (by kernel_rfl) (by kernel_rfl) (wnt_none rfl) (lt_nilCheck_ptr rfl) ?_
    refine vd_light 17 rfl rfl rfl (by kernel_rfl) (by kernel_rfl) (by kernel_rfl) (wnt_none rfl) (lt_fieldAddr_ptr rfl Try.underlying118 rfl inf22 (by rw [sz22]; decide)) ?_
    refine vd_light 18 rfl rfl rfl (by kernel_rfl) (by kernel_rfl) (by kernel_rfl) (wnt_none rfl) (lt_load_var rfl rfl Try.underlying22 rfl rfl) ?_
    refine vd_light 19 rfl rfl rfl (by kernel_rfl) (by kernel_rfl) (by kernel_rfl) (wnt_none rfl) (lt_move_pv rfl) ?_
    refine vd_light 20 rfl rfl rfl (by kernel_rfl) (by kernel_rfl) (by kernel_rfl) (wnt_none rfl) (lt_binI rfl rfl rfl sd) ?_
    refine vd_light 21 rfl rfl rfl (by kernel_rfl) (by kernel_rfl) (by kernel_rfl) (wnt_none rfl) (lt_binI rfl rfl rfl sd) ?_
    refine vd_light 22 rfl rfl rfl (by kernel_rfl) (by kernel_rfl) (by kernel_rfl) (wnt_none rfl) (lt_move_ptr rfl) ?_
    refine vd_light 23 rfl rfl rfl (by kernel_rfl) (by kernel_rfl) (by kernel_rfl) (wnt_none rfl) (lt_nilCheck_ptr rfl) ?_
    refine vd_light 24 rfl rfl rfl (by kernel_rfl) (by kernel_rfl) (by kernel_rfl) (wnt_none rfl) (lt_fieldAddr_ptr rfl Try.underlying118 rfl inf22 (by rw [sz22]; decide)) ?_
    refine vd_light 25 rfl rfl rfl (by kernel_rfl) (by kernel_rfl) (by kernel_rfl) (wnt_none rfl) (lt_load_var rfl rfl Try.underlying22 rfl rfl) ?_
    refine vd_light 26 rfl rfl rfl (by kernel_rfl) (by kernel_rfl) (by kernel_rfl) (wnt_none rfl) (lt_len_pv rfl Try.underlying22) ?_
    refine vd_light 27 rfl rfl rfl (by kernel_rfl) (by kernel_rfl) (by kernel_rfl) (wnt_none rfl) (lt_binI rfl rfl rfl sd) ?_
    refine vd_light 28 rfl rfl rfl (by kernel_rfl) (by kernel_rfl) (by kernel_rfl) (wnt_none rfl) (lt_index_pv (.int .u8 0) rfl rfl E22.und inf5 sz5 sd sd) ?_
    simp only [Int.toNat_natCast, Int.toNat_zero, getD_ints, getD_intss, getD_bools, getD_bytes, PV.cells]
    refine vd_light 29 rfl rfl rfl (by kernel_rfl) (by kernel_rfl) (by kernel_rfl) (wnt_none rfl) (lt_load_adr rfl Try.underlying5 rfl) ?_
    refine vd_light 30 rfl rfl rfl (by kernel_rfl) (by kernel_rfl) (by kernel_rfl) (wnt_none rfl) (lt_convI rfl Try.underlying5 Try.underlying3 sd) ?_
    refine vd_light 31 rfl rfl rfl (by kernel_rfl) (by kernel_rfl) (by kernel_rfl) (wnt_none rfl) (lt_binI rfl rfl rfl sd) ?_
    refine vd_light 32 rfl rfl rfl (by kernel_rfl) (by kernel_rfl) (by kernel_rfl) (wnt_none rfl) (lt_binI rfl rfl rfl sd) ?_
    refine vd_light 33 rfl rfl rfl (by kernel_rfl) (by kernel_rfl) (by kernel_rfl) (wnt_none rfl) (lt_move_pv rfl) ?_
    refine vd_light 34 rfl rfl rfl (by kernel_rfl) (by kernel_rfl) (by kernel_rfl) (wnt_none rfl) (lt_binI rfl rfl rfl sd) ?_
    refine vd_light 35 rfl rfl rfl (by kernel_rfl) (by kernel_rfl) (by kernel_rfl) (wnt_none rfl) (lt_binI rfl rfl rfl sd) ?_
    refine vd_light 36 rfl rfl rfl (by kernel_rfl) (by kernel_rfl) (by kernel_rfl) (wnt_none rfl) (lt_move_pv rfl) ?_
    refine vd_light 37 rfl rfl rfl (by kernel_rfl) (by kernel_rfl) (by kernel_rfl) (wnt_none rfl) (lt_move_ptr rfl) ?_
    refine vd_light 38 rfl rfl rfl (by kernel_rfl) (by kernel_rfl) (by kernel_rfl) (wnt_none rfl) (lt_nilCheck_ptr rfl) ?_
    refine vd_light 39 rfl rfl rfl (by kernel_rfl) (by kernel_rfl) (by kernel_rfl) (wnt_none rfl) (lt_fieldAddr_ptr rfl Try.underlying118 rfl inf22 (by rw [sz22]; decide)) ?_
    refine vd_light 40 rfl rfl rfl (by kernel_rfl) (by kernel_rfl) (by kernel_rfl) (wnt_none rfl) (lt_load_var rfl rfl Try.underlying22 rfl rfl) ?_
    refine vd_light 41 rfl rfl rfl (by kernel_rfl) (by kernel_rfl) (by kernel_rfl) (wnt_none rfl) (lt_len_pv rfl Try.underlying22) ?_
    refine vd_light 42 rfl rfl rfl (by kernel_rfl) (by kernel_rfl) (by kernel_rfl) (wnt_none rfl) (lt_binI rfl rfl rfl sd) ?_
    refine vd_light 43 rfl rfl rfl (by kernel_rfl) (by kernel_rfl) (by kernel_rfl) (wnt_none rfl) (lt_binI rfl rfl rfl sd) ?_
    refine vd_light 44 rfl rfl rfl (by kernel_rfl) (by kernel_rfl) (by kernel_rfl) (wnt_none rfl) (lt_binI rfl rfl rfl sd) ?_
    refine vd_light 45 rfl rfl rfl (by kernel_rfl) (by kernel_rfl) (by kernel_rfl) (wnt_none rfl) (lt_assign_pv rfl) ?_
    refine vd_nil (by kernel_rfl) ?_
    refine hK11 _ ?_
    refine vc_seq fun K12 hK12 => ?_
    refine vc_region ?_
    refine vo_move_pv rfl rfl ?_
    refine vo_move_pv rfl rfl ?_
    refine vo_binI rfl rfl rfl rfl sd ?_
    refine vo_xor rfl rfl rfl sd sd sd sd ?_
    refine vo_assign_pv rfl rfl ?_
    refine vo_nil ?_
    refine hK12 _ ?_
    refine vc_seq fun K13 hK13 => ?_
    refine vc_region ?_
    refine vo_move_pv rfl rfl ?_
    refine vo_move_pv rfl rfl ?_
    refine vo_binI rfl rfl rfl rfl sd ?_
    refine vo_assign_pv rfl rfl ?_
    refine vo_nil ?_
    refine hK13 _ ?_
    refine vc_ret ?_
    change retG _ _ _ _ _
    refine retG_sel [] [] hC rfl rfl rfl rfl rfl rfl ?_
    exact ⟨_, ⟨Int.emod_nonneg _ (by omega), fun h => Int.emod_lt_of_pos _ (by omega)⟩, rfl, rfl⟩


theorem one_sat {nl : Option Bool} {c : List (Fin 256)} {p : Nat} {nl2 : Option Bool} {list : List Int} (hc : c.length ≤ 2000) (hp : p < 1000000) (hn : list ≠ []) (hl : list.length < 1000000000) : SatAt Try.prog 98 [.ptr 0 0 0 0, .pv false (.sl nl2 1 (list.map intP))] [rdr nl c p] (fun res rows => ∃ x, x ∈ list ∧ res = [i64 x] ∧ rows = [rdr nl c (p + 1)]) := by
 have hL : ((list.map intP).length : Int) = list.length := by simp
 have hN := List.length_pos_iff.2 hn
 refine sat_entry_g (ts := [4]) Try.func98 rfl rfl (by decide) (Nat.le_of_ble_eq_true rfl) fun C hC => ?_
 rw [Try.ntmps98]
 replace hC : C.nb = 1 := hC
 refine vc_seq fun K1 hK1 => ?_
 refine vc_region ?_
 refine vo_assign_pv rfl rfl ?_
 refine vo_nil ?_
 refine hK1 _ ?_
 refine vc_seq fun K2 hK2 => ?_
 refine vc_region ?_
 refine vo_move_pv rfl rfl ?_
 refine vo_move_ptr rfl rfl ?_
 refine vo_move_pv rfl rfl ?_
 refine vo_len_pv rfl rfl Try.underlying28 ?_
 refine vo_call [0] Try.func74 rfl rfl rfl rfl rfl rfl rfl (pick_sat hc (by omega)) ?_
 rintro _ _ ⟨x, ⟨hx0, hx1⟩, rfl, rfl⟩
 refine ⟨Nat.le_of_ble_eq_true rfl, ⟨rfl, rfl, rfl, rfl⟩, .inl rfl, ?_⟩
 refine vo_stN ?_
 refine vo_index_pv (.int .i64 0) rfl rfl rfl E28.und inf3 sz3 sd sd ?_
 simp only [Int.toNat_natCast, Int.toNat_zero, getD_ints, getD_intss, getD_bools, getD_bytes, PV.cells]
 refine vo_load_adr rfl rfl Try.underlying3 rfl ?_
 refine vo_assign_pv rfl rfl ?_
 refine vo_nil ?_
 refine hK2 _ ?_
 refine vc_ret ?_
 change retG _ _ _ _ _
 refine retG_sel [] [] hC rfl rfl rfl rfl rfl rfl ?_
 exact ⟨_, getD_mem (by omega) 0, rfl, rfl⟩


theorem one2_sat {nl : Option Bool} {c : List (Fin 256)} {p : Nat} {nl2 : Option Bool} {list : List (List Int)} (hc : c.length ≤ 2000) (hp : p < 1000000) (hn : list ≠ []) (hl : list.length < 1000000000) : SatAt Try.prog 115 [.ptr 0 0 0 0, .pv false (.sl nl2 1 (list.map ints))] [rdr nl c p] (fun res rows => ∃ x, x ∈ list ∧ res = [.pv false (ints x)] ∧ rows = [rdr nl c (p + 1)]) := by
 have hL : ((list.map ints).length : Int) = list.length := by simp
 have hN := List.length_pos_iff.2 hn
 refine sat_entry_g (ts := [4]) Try.func115 rfl rfl (by decide) (Nat.le_of_ble_eq_true rfl) fun C hC => ?_
 rw [Try.ntmps115]
 replace hC : C.nb = 1 := hC
 refine vc_seq fun K1 hK1 => ?_
 refine vc_region ?_
 refine vo_assign_pv rfl rfl ?_
 refine vo_nil ?_
 refine hK1 _ ?_
 refine vc_seq fun K2 hK2 => ?_
 refine vc_region ?_
 refine vo_move_pv rfl rfl ?_
 refine vo_move_ptr rfl rfl ?_
 refine vo_move_pv rfl rfl ?_
 refine vo_len_pv rfl rfl Try.underlying23 ?_
 refine vo_call [0] Try.func74 rfl rfl rfl rfl rfl rfl rfl (pick_sat hc (by omega)) ?_
 rintro _ _ ⟨x, ⟨hx0, hx1⟩, rfl, rfl⟩
 refine ⟨Nat.le_of_ble_eq_true rfl, ⟨rfl, rfl, rfl, rfl⟩, .inl rfl, ?_⟩
 refine vo_stN ?_
 refine vo_index_pv (.sl none 1 []) rfl rfl rfl E23.und inf28 sz28 sd sd ?_
 simp only [Int.toNat_natCast, Int.toNat_zero, getD_ints, getD_intss, getD_bools, getD_bytes, PV.cells]
 refine vo_load_adr rfl rfl Try.underlying28 rfl ?_
 refine vo_assign_pv rfl rfl ?_
 refine vo_nil ?_
 refine hK2 _ ?_
 refine vc_ret ?_
 change retG _ _ _ _ _
 refine retG_sel [] [] hC rfl rfl rfl rfl rfl rfl ?_
 exact ⟨_, getD_mem (by omega) [], rfl, rfl⟩


theorem someBases_sat {nl : Option Bool} {c : List (Fin 256)} {p : Nat} {most : Int} (hc : c.length ≤ 2000) (hp : p < 999900) : SatAt Try.prog 114 [.ptr 0 0 0 0, i64 most] [rdr nl c p] (fun res rows => ∃ B q, (SB B ∧ B.length ≤ 9 ∧ ((B.length : Int) ≤ most ∨ B.length = 1) ∧ q ≤ p + 90) ∧ res = [.ref 1] ∧ rows = [rdr nl c q, Row.own 28 1 (some false) true (B.map ints)]) := by
 refine sat_entry_g (ts := [4]) Try.func114 rfl rfl (by decide) (Nat.le_of_ble_eq_true rfl) fun C hC => ?_
 rw [Try.ntmps114]
 replace hC : C.nb = 1 := hC
 refine vc_seq fun K1 hK1 => ?_
 refine vc_region ?_
 refine vo_assign_pv rfl rfl ?_
 refine vo_nil ?_
 refine hK1 _ ?_
 refine vc_seq fun K2 hK2 => ?_
 refine vc_region ?_
 refine vo_buildSlice E28 rfl rfl rfl rfl rfl ?_
 refine vo_expose 1 (by omega) rfl ?_
 refine vo_weaken 10 rfl ?_
 refine vo_stN ?_
 refine vo_buildSlice E23 rfl rfl rfl rfl rfl ?_
 refine vo_assign_ref rfl rfl ?_
 refine vo_nil ?_
 refine hK2 _ ?_
 refine vc_seq fun K3 hK3 => ?_
 refine vc_seq fun K4 hK4 => ?_
 refine vc_region ?_
 refine vo_move_ptr rfl rfl ?_
 refine vo_buildSlice E28 rfl rfl rfl rfl rfl ?_
 refine vo_expose 3 (by omega) rfl ?_
 refine vo_weaken 13 rfl ?_
 refine vo_stN ?_
 refine vo_call [0] Try.func98 rfl rfl rfl rfl rfl rfl rfl (one_sat (list := [4,5,3,6,7,2,0,8]) hc (by omega) (by simp) (by simp)) ?_
 rintro _ _ ⟨x, hx, rfl, rfl⟩
 refine ⟨Nat.le_of_ble_eq_true rfl, ⟨rfl, rfl, rfl, rfl⟩, .inl rfl, ?_⟩
 refine vo_stN ?_
 refine vo_assign_pv rfl rfl ?_
 refine vo_nil ?_
 refine hK4 _ ?_
 refine vc_block ?_
 refine vc_stN ?_
 refine vc_loop [0, 1, 5, 6] (fun mz vs rows => ∃ (B : List (List Int)) (q : Nat) (n : Int), mz = n.toNat ∧ ((0 ≤ n ∧ B.length + n ≤ 9)) ∧ ((q + 10 * n ≤ p + 90)) ∧ (SB B) ∧ (((B.length : Int) ≤ most ∨ B.length = 1)) ∧ vs = [.ptr 0 0 0 0, i64 most, .ref 2, i64 n] ∧ rows = [rdr nl c q, .dead, Row.own 28 1 (some false) true (B.map ints), .dead]) (x.toNat) (le_len hC rfl) ⟨rfl, rfl⟩ ⟨[[]], p+1, x, rfl, (by simp at hx; simp; omega), (by simp at hx; omega), ⟨by simp, rfl, fun i h1 h2 => by simp at h1; omega⟩, .inr rfl, rfl, rfl⟩ ?_
 rintro mz vs rows - - ⟨B, q, n, rfl, hn, hq, hB, hm, rfl, rfl⟩
 have hBl : ((B.map ints).length : Int) = B.length := by simp
 have hB1 := hB.1
 refine vc_seq fun K5 hK5 => ?_
 refine vc_seq fun K6 hK6 => ?_
 refine vc_region ?_
 refine vo_move_pv rfl rfl ?_
 refine vo_binI rfl rfl rfl rfl trivial ?_
 refine vo_move_pv rfl rfl ?_
 refine vo_split 17 rfl (fun hg1 => ?_) (fun hg1 => ?_)
 ·try simp only [zq0, zq1, zq2, zq3, zq4, zq5, zq6, zq7, zq8, zq9, zqa, zqb, zqc, zqd, zqe, zqf] at hg1
  refine vo_guard_on rfl rfl rfl ?_
  refine vo_move_ref rfl rfl ?_
  refine vo_guard_on rfl rfl rfl ?_
  refine vo_len_ref rfl rfl rfl Try.underlying23 ?_
  refine vo_guard_on rfl rfl rfl ?_
  refine vo_move_pv rfl rfl ?_
  refine vo_guard_on rfl rfl rfl ?_
  refine vo_binI rfl rfl rfl rfl trivial ?_
  refine vo_pick_t rfl rfl ?_
  refine vo_nil ?_
  refine hK6 _ ?_
  refine vc_cond rfl (fun hc2 => ?_) (fun hc2 => ?_)
  ·try simp only [zq0, zq1, zq2, zq3, zq4, zq5, zq6, zq7, zq8, zq9, zqa, zqb, zqc, zqd, zqe, zqf] at hc2
   refine vc_skip ?_
   refine hK5 _ ?_
   refine vc_seq fun K7 hK7 => ?_
   refine vc_block ?_
   refine vc_seq fun K8 hK8 => ?_
   refine vc_region ?_
   refine vo_buildSlice E28 rfl rfl rfl rfl rfl ?_
   refine vo_assign_ref rfl rfl ?_
   refine vo_nil ?_
   refine hK8 _ ?_
   refine vc_seq fun K9 hK9 => ?_
   refine vc_seq fun K10 hK10 => ?_
   refine vc_region ?_
   refine vo_move_ptr rfl rfl ?_
   refine vo_buildSlice E28 rfl rfl rfl rfl rfl ?_
   refine vo_expose 5 (by omega) rfl ?_
   refine vo_weaken 27 rfl ?_
   refine vo_stN ?_
   refine vo_call [0] Try.func98 rfl rfl rfl rfl rfl rfl rfl (one_sat (list := [1,2,2,3]) hc (by omega) (by simp) (by simp)) ?_
   rintro _ _ ⟨y, hy, rfl, rfl⟩
   refine ⟨Nat.le_of_ble_eq_true rfl, ⟨rfl, rfl, rfl, rfl⟩, .inl rfl, ?_⟩
   refine vo_stN ?_
   refine vo_assign_pv rfl rfl ?_
   refine vo_nil ?_
   refine hK10 _ ?_
   refine vc_block ?_
   refine vc_stN ?_
   refine vc_loop [0, 1, 5, 6, 7, 8] (fun mz vs rows => ∃ (q : Nat) (k : Int) (l : List Int), mz = k.toNat ∧ ((0 ≤ k ∧ l.length + k ≤ 3)) ∧ ((q + 3 * k + 10 * (n-1) ≤ p + 90)) ∧ (l.Nodup) ∧ ((∀ x ∈ l, 0 ≤ x ∧ x < B.length)) ∧ ((l ≠ [] ∨ 1 ≤ k)) ∧ vs = [.ptr 0 0 0 0, i64 most, .ref 2, i64 n, .ref 4, i64 k] ∧ rows = [rdr nl c q, .dead, Row.own 28 1 (some false) true (B.map ints), .dead, Row.own 3 1 (some false) true (l.map intP), .dead]) (y.toNat) (le_len hC rfl) ⟨rfl, rfl⟩ ⟨q+1, y, [], rfl, (by simp at hy; simp; omega), (by simp at hy; omega), List.nodup_nil, (by simp), (.inr (by simp at hy; omega)), rfl, rfl⟩ ?_
   rintro mz vs rows - - ⟨q, k, l, rfl, hk, hq2, hl, hl2, hl3, rfl, rfl⟩
   refine vc_seq fun K11 hK11 => ?_
   refine vc_seq fun K12 hK12 => ?_
   refine vc_region ?_
   refine vo_move_pv rfl rfl ?_
   refine vo_binI rfl rfl rfl rfl trivial ?_
   refine vo_nil ?_
   refine hK12 _ ?_
   refine vc_cond rfl (fun hc3 => ?_) (fun hc3 => ?_)
   ·try simp only [zq0, zq1, zq2, zq3, zq4, zq5, zq6, zq7, zq8, zq9, zqa, zqb, zqc, zqd, zqe, zqf] at hc3
    refine vc_skip ?_
    refine hK11 _ ?_
    refine vc_seq fun K13 hK13 => ?_
    refine vc_block ?_
    refine vc_seq fun K14 hK14 => ?_
    refine vc_region ?_
    refine vo_move_ptr rfl rfl ?_
    refine vo_move_ref rfl rfl ?_
    refine vo_len_ref rfl rfl rfl Try.underlying23 ?_
    refine vo_binI rfl rfl rfl rfl sd ?_
    refine vo_move_ptr rfl rfl ?_
    refine vo_move_ref rfl rfl ?_
    refine vo_len_ref rfl rfl rfl Try.underlying23 ?_
    refine vo_call [0] Try.func74 rfl rfl rfl rfl rfl rfl rfl (pick_sat hc (by omega)) ?_
    rintro _ _ ⟨x1, ⟨hx1, hx2⟩, rfl, rfl⟩
    refine ⟨Nat.le_of_ble_eq_true rfl, ⟨rfl, rfl, rfl, rfl⟩, .inl rfl, ?_⟩
    refine vo_stN ?_
    refine vo_move_ptr rfl rfl ?_
    refine vo_move_ref rfl rfl ?_
    refine vo_len_ref rfl rfl rfl Try.underlying23 ?_
    refine vo_call [0] Try.func74 rfl rfl rfl rfl rfl rfl rfl (pick_sat hc (by omega)) ?_
    rintro _ _ ⟨x2, ⟨hx3, hx4⟩, rfl, rfl⟩
    refine ⟨Nat.le_of_ble_eq_true rfl, ⟨rfl, rfl, rfl, rfl⟩, .inl rfl, ?_⟩
    refine vo_stN ?_
    refine vo_buildSlice E28 rfl rfl rfl rfl rfl ?_
    refine vo_expose 6 (by omega) rfl ?_
    refine vo_weaken 45 rfl ?_
    refine vo_stN ?_
    refine vo_call [0] Try.func98 rfl rfl rfl rfl rfl rfl rfl (one_sat (list := [_,_,_]) hc (by omega) (by simp) (by simp)) ?_
    rintro _ _ ⟨x, hx, rfl, rfl⟩
    refine ⟨Nat.le_of_ble_eq_true rfl, ⟨rfl, rfl, rfl, rfl⟩, .inl rfl, ?_⟩
    refine vo_stN ?_
    refine vo_assign_pv rfl rfl ?_
    refine vo_nil ?_
    refine hK14 _ ?_
    refine vc_seq fun K15 hK15 => ?_
    refine vc_region ?_
    refine vo_move_ref rfl rfl ?_
    refine vo_move_pv rfl rfl ?_
    refine vo_call0 Try.func111 rfl rfl rfl rfl (placeIn_sat (by omega)) ?_
    rintro _ _ ⟨rfl, rfl⟩
    refine ⟨rfl, rfl, .inr rfl, ?_⟩
    refine vo_binI rfl rfl rfl rfl trivial ?_
    refine vo_nil ?_
    refine hK15 _ ?_
    refine vc_cond rfl (fun hc4 => ?_) (fun hc4 => ?_)
    ·try simp only [zq0, zq1, zq2, zq3, zq4, zq5, zq6, zq7, zq8, zq9, zqa, zqb, zqc, zqd, zqe, zqf] at hc4
     refine vc_region ?_
     refine vo_move_ref rfl rfl ?_
     refine vo_move_pv rfl rfl ?_
     refine vo_buildSlice E28 rfl rfl rfl rfl rfl ?_
     refine vo_append E28 rfl (by omega) rfl rfl rfl sd sd ?_
     refine vo_stN ?_
     try simp only [app_ints, app_intss, app_bools]
     refine vo_assign_ref rfl rfl ?_
     refine vo_nil ?_
     refine hK13 _ ?_
     refine vc_region ?_
     refine vo_move_pv rfl rfl ?_
     refine vo_binI rfl rfl rfl rfl sd ?_
     refine vo_assign_pv rfl rfl ?_
     refine vo_nil ?_
     change again _ _ _ _ _ _
     refine again_mk rfl rfl rfl rfl ⟨_, ?_, q + 1 + 1 + 1, k - 1, l ++ [x], rfl, ?_, ?_, ?_, ?_, ?_, rfl, rfl⟩
     ·omega
     ·refine ⟨by omega, ?_⟩; rw [List.length_append, List.length_singleton]; omega
     ·omega
     ·exact nodup_snoc hl ((findM_not _ _ 0 (by omega)).1 (by assumption))
     ·intro z hz; rcases List.mem_append.1 hz with hz | hz
      ·exact hl2 z hz
      ·rw [List.mem_singleton.1 hz]; simp only [List.mem_cons, List.not_mem_nil, or_false] at hx; rcases hx with rfl | rfl | rfl <;> omega
     ·exact .inl (by simp)
    ·try simp only [zq0, zq1, zq2, zq3, zq4, zq5, zq6, zq7, zq8, zq9, zqa, zqb, zqc, zqd, zqe, zqf] at hc4
     refine vc_skip ?_
     refine hK13 _ ?_
     refine vc_region ?_
     refine vo_move_pv rfl rfl ?_
     refine vo_binI rfl rfl rfl rfl sd ?_
     refine vo_assign_pv rfl rfl ?_
     refine vo_nil ?_
     change again _ _ _ _ _ _
     refine again_mk rfl rfl rfl rfl ⟨_, ?_, q + 1 + 1 + 1, k - 1, l, rfl, ?_, ?_, ?_, ?_, ?_, rfl, rfl⟩
     ·omega
     ·omega
     ·omega
     ·exact hl
     ·exact hl2
     ·exact .inl (fun e => by subst e; simp [findM] at *)
   ·try simp only [zq0, zq1, zq2, zq3, zq4, zq5, zq6, zq7, zq8, zq9, zqa, zqb, zqc, zqd, zqe, zqf] at hc3
    refine vc_exit ?_
    refine hK9 _ ?_
    refine vc_region ?_
    refine vo_move_ref rfl rfl ?_
    refine vo_move_ref rfl rfl ?_
    refine vo_expose 4 (by omega) rfl ?_
    refine vo_weaken 56 rfl ?_
    refine vo_stN ?_
    refine vo_buildSlice E23 rfl rfl rfl rfl rfl ?_
    refine vo_append E23 rfl (by omega) rfl rfl rfl sd sd ?_
    refine vo_stN ?_
    try simp only [app_ints, app_intss, app_bools]
    refine vo_assign_ref rfl rfl ?_
    refine vo_nil ?_
    refine hK7 _ ?_
    refine vc_region ?_
    refine vo_move_pv rfl rfl ?_
    refine vo_binI rfl rfl rfl rfl sd ?_
    refine vo_assign_pv rfl rfl ?_
    refine vo_nil ?_
    change again _ _ _ _ _ _
    refine again_mk rfl rfl rfl rfl ⟨_, ?_, B ++ [l], q, n - 1, rfl, ?_, ?_, ?_, ?_, rfl, rfl⟩
    ·omega
    ·refine ⟨by omega, ?_⟩; rw [List.length_append, List.length_singleton]; omega
    ·omega
    ·exact hB.snoc (by rcases hl3 with h | h; exact h; omega) (by omega) hl hl2
    ·left; rw [List.length_append, List.length_singleton]; omega
  ·try simp only [zq0, zq1, zq2, zq3, zq4, zq5, zq6, zq7, zq8, zq9, zqa, zqb, zqc, zqd, zqe, zqf] at hc2
   refine vc_exit ?_
   refine hK3 _ ?_
   refine vc_seq fun K16 hK16 => ?_
   refine vc_region ?_
   refine vo_move_ref rfl rfl ?_
   refine vo_assign_ref rfl rfl ?_
   refine vo_nil ?_
   refine hK16 _ ?_
   refine vc_ret ?_
   change retG _ _ _ _ _
   refine retG_one 2 hC rfl rfl rfl rfl rfl ?_
   exact ⟨_, _, ⟨hB, by omega, hm, by omega⟩, rfl, rfl⟩
 ·try simp only [zq0, zq1, zq2, zq3, zq4, zq5, zq6, zq7, zq8, zq9, zqa, zqb, zqc, zqd, zqe, zqf] at hg1
  refine vo_guard_off rfl rfl rfl rfl rfl ?_
  refine vo_guard_off rfl rfl rfl rfl rfl ?_
  refine vo_guard_off rfl rfl rfl rfl rfl ?_
  refine vo_guard_off rfl rfl rfl rfl rfl ?_
  refine vo_pick_f rfl rfl ?_
  refine vo_nil ?_
  refine hK6 _ ?_
  refine vc_cond_f rfl ?_
  refine vc_exit ?_
  refine hK3 _ ?_
  refine vc_seq fun K17 hK17 => ?_
  refine vc_region ?_
  refine vo_move_ref rfl rfl ?_
  refine vo_assign_ref rfl rfl ?_
  refine vo_nil ?_
  refine hK17 _ ?_
  refine vc_ret ?_
  change retG _ _ _ _ _
  refine retG_one 2 hC rfl rfl rfl rfl rfl ?_
  exact ⟨_, _, ⟨hB, by omega, hm, by omega⟩, rfl, rfl⟩

end Go.Vl

namespace Go.Vl
set_option linter.unusedVariables false
set_option linter.unusedSimpArgs false
open Go.Proofs

theorem rows2_eq {r : Row} {el : TypeId} {e : Nat} {nl : Option Bool} {f : Bool} {xs ys : List PV} (h : xs = ys) : [r, Row.own el e nl f xs] = [r, Row.own el e nl f ys] := by rw [h]
theorem anyBases_sat {nl : Option Bool} {c : List (Fin 256)} {p : Nat} {most : Int} (hc : c.length ≤ 2000) (hp : p < 999800) : SatAt Try.prog 75 [.ptr 0 0 0 0, i64 most] [rdr nl c p] (fun res rows => ∃ (B : List (List Int)) (q : Nat) (f : Bool), (1 ≤ B.length ∧ B.length ≤ 10 ∧ (∀ l ∈ B, l.length ≤ 3) ∧ q ≤ p + 100) ∧ res = [.ref 1] ∧ rows = [rdr nl c q, Row.own 28 1 (some false) f (B.map ints)]) := by
 refine sat_entry_g (ts := [4]) Try.func75 rfl rfl (by decide) (Nat.le_of_ble_eq_true rfl) fun C hC => ?_
 rw [Try.ntmps75]
 replace hC : C.nb = 1 := hC
 refine vc_seq fun K1 hK1 => ?_
 refine vc_region ?_
 refine vo_assign_pv rfl rfl ?_
 refine vo_nil ?_
 refine hK1 _ ?_
 refine vc_seq fun K2 hK2 => ?_
 refine vc_region ?_
 refine vo_move_ptr rfl rfl ?_
 refine vo_move_pv rfl rfl ?_
 refine vo_call [0] Try.func114 rfl rfl rfl rfl rfl rfl rfl (someBases_sat hc (by omega)) ?_
 rintro _ _ ⟨B, q, ⟨hB, hB2, hB3, hB4⟩, rfl, rfl⟩
 refine ⟨Nat.le_of_ble_eq_true rfl, ⟨rfl, rfl, rfl, rfl⟩, .inl rfl, ?_⟩
 refine vo_stN ?_
 refine vo_assign_ref rfl rfl ?_
 refine vo_nil ?_
 refine hK2 _ ?_
 refine vc_seq fun K3 hK3 => ?_
 refine vc_seq fun K4 hK4 => ?_
 refine vc_region ?_
 refine vo_move_ptr rfl rfl ?_
 refine vo_call [0] Try.func74 rfl rfl rfl rfl rfl rfl rfl (pick_sat hc (by omega)) ?_
 rintro _ _ ⟨x, ⟨hx0, hx1⟩, rfl, rfl⟩
 refine ⟨Nat.le_of_ble_eq_true rfl, ⟨rfl, rfl, rfl, rfl⟩, .inl rfl, ?_⟩
 refine vo_stN ?_
 refine vo_nil ?_
 refine hK4 _ ?_
 refine vc_block ?_
 refine vc_seq fun K5 hK5 => ?_
 refine vc_region ?_
 refine vo_binI rfl rfl rfl rfl trivial ?_
 refine vo_assign_pv rfl rfl ?_
 refine vo_nil ?_
 refine hK5 _ ?_
 refine vc_cond rfl (fun hc1 => ?_) (fun hc1 => ?_)
 ·try simp only [zq0, zq1, zq2, zq3, zq4, zq5, zq6, zq7, zq8, zq9, zqa, zqb, zqc, zqd, zqe, zqf] at hc1
  have hB1 := hB.1
  have hL : (B.map ints).length = B.length := by simp
  refine vc_region ?_
  refine vo_move_ref rfl rfl ?_
  refine vo_buildSlice E28 rfl rfl rfl rfl rfl ?_
  refine vo_index_ref rfl rfl rfl rfl E23.und inf28 sz28 sd sd ?_
  try simp only [Int.toNat_natCast]
  refine vo_expose 2 (by omega) rfl ?_
  refine vo_weaken 14 rfl ?_
  refine vo_stN ?_
  refine vo_store_own rfl rfl rfl inf28 sz28 (by decide) rfl sd ?_
  try simp only [set_ints, set_intss, set_bools, rep_bools, rep_ints, Int.toNat_natCast, Int.toNat_zero]
  refine vo_nil ?_
  refine hK3 _ ?_
  refine vc_seq fun K6 hK6 => ?_
  refine vc_region ?_
  refine vo_move_ref rfl rfl ?_
  refine vo_assign_ref rfl rfl ?_
  refine vo_nil ?_
  refine hK6 _ ?_
  refine vc_ret ?_
  change retG _ _ _ _ _
  refine retG_one 1 hC rfl rfl rfl rfl rfl ?_
  exact ⟨B.set 0 [0], q+1, _, ⟨by rw [List.length_set]; omega, by rw [List.length_set]; omega, set_lens hB.lens (by decide), by omega⟩, rfl, rows2_eq (set_intss B 0 [0])⟩
 ·try simp only [zq0, zq1, zq2, zq3, zq4, zq5, zq6, zq7, zq8, zq9, zqa, zqb, zqc, zqd, zqe, zqf] at hc1
  have hB1 := hB.1
  refine vc_seq fun K7 hK7 => ?_
  refine vc_region ?_
  refine vo_binI rfl rfl rfl rfl trivial ?_
  refine vo_assign_pv rfl rfl ?_
  refine vo_nil ?_
  refine hK7 _ ?_
  refine vc_cond rfl (fun hc2 => ?_) (fun hc2 => ?_)
  ·try simp only [zq0, zq1, zq2, zq3, zq4, zq5, zq6, zq7, zq8, zq9, zqa, zqb, zqc, zqd, zqe, zqf] at hc2
   refine vc_region ?_
   refine vo_move_ref rfl rfl ?_
   refine vo_move_ref rfl rfl ?_
   refine vo_len_ref rfl rfl rfl Try.underlying23 ?_
   refine vo_buildSlice E28 rfl rfl rfl rfl rfl ?_
   refine vo_expose 2 (by omega) rfl ?_
   refine vo_weaken 21 rfl ?_
   refine vo_stN ?_
   refine vo_buildSlice E23 rfl rfl rfl rfl rfl ?_
   refine vo_append E23 rfl (by omega) rfl rfl rfl sd sd ?_
   refine vo_stN ?_
   try simp only [app_ints, app_intss, app_bools]
   refine vo_assign_ref rfl rfl ?_
   refine vo_nil ?_
   refine hK3 _ ?_
   refine vc_seq fun K8 hK8 => ?_
   refine vc_region ?_
   refine vo_move_ref rfl rfl ?_
   refine vo_assign_ref rfl rfl ?_
   refine vo_nil ?_
   refine hK8 _ ?_
   refine vc_ret ?_
   change retG _ _ _ _ _
   refine retG_one 1 hC rfl rfl rfl rfl rfl ?_
   refine ⟨B ++ [[((B.map ints).length : Int)]], q+1, _, ⟨by rw [List.length_append, List.length_singleton]; omega, by rw [List.length_append, List.length_singleton]; omega, app_lens hB.lens (by simp), by omega⟩, rfl, rows2_eq (app_intss B [((B.map ints).length : Int)])⟩
  ·try simp only [zq0, zq1, zq2, zq3, zq4, zq5, zq6, zq7, zq8, zq9, zqa, zqb, zqc, zqd, zqe, zqf] at hc2
   refine vc_seq fun K9 hK9 => ?_
   refine vc_region ?_
   refine vo_binI rfl rfl rfl rfl trivial ?_
   refine vo_assign_pv rfl rfl ?_
   refine vo_nil ?_
   refine hK9 _ ?_
   refine vc_cond rfl (fun hc3 => ?_) (fun hc3 => ?_)
   ·try simp only [zq0, zq1, zq2, zq3, zq4, zq5, zq6, zq7, zq8, zq9, zqa, zqb, zqc, zqd, zqe, zqf] at hc3
    refine vc_region ?_
    refine vo_move_ref rfl rfl ?_
    refine vo_move_ptr rfl rfl ?_
    refine vo_buildSlice E28 rfl rfl rfl rfl rfl ?_
    refine vo_buildSlice E28 rfl rfl rfl rfl rfl ?_
    refine vo_buildSlice E28 rfl rfl rfl rfl rfl ?_
    refine vo_expose 2 (by omega) rfl ?_
    refine vo_weaken 28 rfl ?_
    refine vo_stN ?_
    refine vo_expose 3 (by omega) rfl ?_
    refine vo_weaken 29 rfl ?_
    refine vo_stN ?_
    refine vo_expose 4 (by omega) rfl ?_
    refine vo_weaken 30 rfl ?_
    refine vo_stN ?_
    refine vo_buildSlice E23 rfl rfl rfl rfl rfl ?_
    refine vo_expose 5 (by omega) rfl ?_
    refine vo_weaken 31 rfl ?_
    refine vo_stN ?_
    refine vo_call [0] Try.func115 rfl rfl rfl rfl rfl rfl rfl (one2_sat (list := [[],[0,0],[-1]]) hc (by omega) (by simp) (by simp)) ?_
    rintro _ _ ⟨y, hy, rfl, rfl⟩
    refine ⟨Nat.le_of_ble_eq_true rfl, ⟨rfl, rfl, rfl, rfl⟩, .inl rfl, ?_⟩
    refine vo_stN ?_
    refine vo_weaken 32 rfl ?_
    refine vo_buildSlice E23 rfl rfl rfl rfl rfl ?_
    refine vo_append E23 rfl (by omega) rfl rfl rfl sd sd ?_
    refine vo_stN ?_
    try simp only [app_ints, app_intss, app_bools]
    refine vo_assign_ref rfl rfl ?_
    refine vo_nil ?_
    refine hK3 _ ?_
    refine vc_seq fun K10 hK10 => ?_
    refine vc_region ?_
    refine vo_move_ref rfl rfl ?_
    refine vo_assign_ref rfl rfl ?_
    refine vo_nil ?_
    refine hK10 _ ?_
    refine vc_ret ?_
    change retG _ _ _ _ _
    refine retG_one 1 hC rfl rfl rfl rfl rfl ?_
    refine ⟨B ++ [y], q+1+1, _, ⟨by rw [List.length_append, List.length_singleton]; omega, by rw [List.length_append, List.length_singleton]; omega, app_lens hB.lens (by simp at hy; rcases hy with rfl | rfl | rfl <;> simp), by omega⟩, rfl, rfl⟩
   ·try simp only [zq0, zq1, zq2, zq3, zq4, zq5, zq6, zq7, zq8, zq9, zqa, zqb, zqc, zqd, zqe, zqf] at hc3
    refine vc_skip ?_
    refine hK3 _ ?_
    refine vc_seq fun K11 hK11 => ?_
    refine vc_region ?_
    refine vo_move_ref rfl rfl ?_
    refine vo_assign_ref rfl rfl ?_
    refine vo_nil ?_
    refine hK11 _ ?_
    refine vc_ret ?_
    change retG _ _ _ _ _
    refine retG_one 1 hC rfl rfl rfl rfl rfl ?_
    refine ⟨B, q+1, _, ⟨by omega, by omega, hB.lens, by omega⟩, rfl, rfl⟩

end Go.Vl

namespace Go.Vl
set_option linter.unusedVariables false
set_option linter.unusedSimpArgs false
open Go.Proofs

end Go.Vl

namespace Go.Vl
set_option linter.unusedVariables false
set_option linter.unusedSimpArgs false
open Go.Proofs
end Go.Vl

namespace Go.Vl
set_option linter.unusedVariables false
set_option linter.unusedSimpArgs false
open Go.Proofs
end Go.Vl

namespace Go.Vl
set_option linter.unusedVariables false
set_option linter.unusedSimpArgs false
open Go.Proofs

def srtL (l : List Int) (n : Nat) : List Int := ((List.range n).filter (fun (i : Nat) => decide ((i : Int) ∈ l))).map (fun (i : Nat) => (i : Int))
end Go.Vl

namespace Go.Vl
set_option linter.unusedVariables false
set_option linter.unusedSimpArgs false
open Go.Proofs
/-- Is a name abstract, as the first class of an order that has it tells? -/
def isAbs (A R : List (List Int)) (n : Int) : List Int → Bool
  | [] => false
  | x :: r => if n ∈ A.getD x.toNat [] then true else if n ∈ R.getD x.toNat [] then false else isAbs A R n r
def absP (x : WorksM) (c : Nat) (n : Int) : Bool := isAbs x.abs x.real n (ordM x.bases c)
def selI (p : Int → Bool) (k : Nat) : List Int := ((List.range k).map fun i : Nat => (i : Int)).filter p
def absM (x : WorksM) (c : Int) : List Int := if VWorks x ∧ 0 ≤ c ∧ c ≤ (x.bases.length : Int) - 1 then selI (absP x c.toNat) 10 else []
/-- Classes of an order are classes. -/
def OrdIx (n : Nat) (o : List Int) : Prop := o.length < 1000000000 ∧ ∀ x ∈ o, 0 ≤ x ∧ x < n
end Go.Vl

namespace Go.Vl
set_option linter.unusedVariables false
set_option linter.unusedSimpArgs false
open Go.Proofs
def fndK (x : WorksM) (k : Nat) : List (List Int) := (List.range k).map fun j => selI (absP x j) 10
end Go.Vl

namespace Go.Vl
set_option linter.unusedVariables false
set_option linter.unusedSimpArgs false
open Go.Proofs

end Go.Vl

namespace Go.Vl
set_option linter.unusedVariables false
set_option linter.unusedSimpArgs false
open Go.Proofs

def mkK (x : WorksM) (c : Nat) : List Bool := (List.range 10).map fun i : Nat => absP x c i
end Go.Vl

namespace Go.Vl
set_option linter.unusedVariables false
set_option linter.unusedSimpArgs false
open Go.Proofs

def acOK (b : List (List Int)) (l : List Int) : Prop := VB b ∧ VB (b ++ [l]) ∧ ordM (b ++ [l]) b.length ≠ []
instance {b : List (List Int)} {l : List Int} : Decidable (acOK b l) := by unfold acOK; infer_instance
def acR (b : List (List Int)) (l : List Int) : List (List Int) := if acOK b l then b ++ [l] else []
end Go.Vl

namespace Go.Vl
set_option linter.unusedVariables false
set_option linter.unusedSimpArgs false
open Go.Proofs

def mkLL : Int → List (List Int) → List (List Int)
  | _, [] => []
  | k, l :: r => markL k l.length :: mkLL (k + l.length) r
def mkE : Int → List (List Int) → Int
  | k, [] => k
  | k, l :: r => mkE (k + l.length) r
end Go.Vl

namespace Go.Vl
set_option linter.unusedVariables false
set_option linter.unusedSimpArgs false
open Go.Proofs

end Go.Vl

namespace Go.Vl
set_option linter.unusedVariables false
set_option linter.unusedSimpArgs false
open Go.Proofs

end Go.Vl

/- Operations that read no memory come at any time, behind those that write too. -/
namespace Go.Vl
set_option linter.unusedVariables false
set_option linter.unusedSimpArgs false
open Go.RowKit
section
variable {P : Program} {C : Ctx} {s : St} {t : Nat} {ty : TypeId} {pos : String} {af : Array Edge}

theorem l0_binI {op : BinOp} {xt yt : TypeId} {x y : Operand} {k : IntKind} {n1 n2 : Int} {f1 f2 : Bool} {cnd : Prop} {r : PV}
    (hx : getO s.env x = .pv f1 (.int k n1)) (hy : getO s.env y = .pv f2 (.int k n2)) (hb : binI op k n1 n2 = some (cnd, r)) (hc : cnd) : Lt0 P C s ⟨some t, .binOp op xt x y yt, ty, pos, af, none⟩ (.pv true r) := by
  intro m a w hs
  have e1 := hs.int hx
  have e2 := hs.int hy
  have hguard : ∀ (T : TypeId) (w : World), (eqGuard op T x y (.int k n1) (.int k n2)).run P w = .ok () w := by
    intro T w
    cases op <;> rfl
  have key : ∃ v, (∀ w, (binOp op xt (.int k n1) (.int k n2)).run P w = .ok v w) ∧ RS w (Gd C s.rows m w) m s.rows.length (.pv true r) v := by
    cases op <;> simp only [binI, Option.some.injEq, Prod.mk.injEq, reduceCtorEq] at hb
    all_goals try (obtain ⟨rfl, rfl⟩ := hb)
    all_goals try simp only [binOp, ne_eq, not_true, if_false, Op.intArith, Op.intCmp, Op.intDiv]
    all_goals first
      | exact ⟨_, fun _ => rfl, .pv _ _ _ (by rw [wrap_in hc]; exact .int _ _)⟩
      | exact ⟨_, fun _ => rfl, .pv _ _ _ (.bool _)⟩
      | (rw [if_neg (by omega)]
         refine ⟨_, fun _ => rfl, .pv _ _ _ ?_⟩
         first
           | (rw [Int.tdiv_eq_ediv_of_nonneg hc.1, wrap_in hc.2.2]; exact .int _ _)
           | (rw [Int.tmod_eq_emod_of_nonneg hc.1]; exact .int _ _))
  obtain ⟨v, hr, hv⟩ := key
  refine ⟨v, fun w' => ?_, hv⟩
  simp only [execOp, e1, e2]
  have := hguard xt w'
  simp [this, hr]

theorem l0_slice_pv {x : Operand} {lo hi : Option Operand} {f : Bool} {nl : Option Bool} {e : Nat} {xs : List PV} {T el : TypeId} {inf : TypeInfo} {l h : Int} 
 (hx : getO s.env x = .pv f (.sl nl e xs)) (hl : bnd s.env lo 0 = some l) (hh : bnd s.env hi xs.length = some h)
 (hT : P.underlying T = some (.slice el)) (hinf : P.info? el = some inf) (hsz : inf.size = e) (h0 : 0 ≤ l) (h1 : l ≤ h) (h2 : h ≤ xs.length) : Lt0 P C s ⟨some t, .slice T x lo hi none, ty, pos, af, none⟩ ((.pv f (.sl nl e ((xs.drop l.toNat).take (h.toNat - l.toNat))))) := by
  intro m a w hs
  have hv := hs.get x
  rw [hx] at hv
  have hv := hv.pv_inv
  obtain ⟨l', rfl⟩ := Int.eq_ofNat_of_zero_le h0
  obtain ⟨h', rfl⟩ := Int.eq_ofNat_of_zero_le (Int.le_trans h0 h1)
  simp only [Int.toNat_natCast] at *
  have hb : ∀ (w1 : World) (len cap : Nat), len = xs.length → h' ≤ cap → (Instr.sliceBounds true len cap (lo.map a.eval) (hi.map a.eval) none).run P w1 = .ok (l', h', cap) w1 := by
    intro w1 len cap hlen hcap
    subst hlen
    have r1 : ∀ y code, l' ≤ y → ∀ o, lo = some o → (Instr.sliceBound (a.eval o) y code).run P w1 = .ok l' w1 := by
      intro y code hy o ho
      subst ho
      simp only [bnd] at hl
      split at hl
      · rename_i f' k' n' he
        simp at hl
        subst hl
        have := hs.bnd_run (P := P) (w1 := w1) (y := y) (code := code) he (by omega) (by omega)
        simpa using this
      · simp at hl
    have r2 : ∀ y code, h' ≤ y → ∀ o, hi = some o → (Instr.sliceBound (a.eval o) y code).run P w1 = .ok h' w1 := by
      intro y code hy o ho
      subst ho
      simp only [bnd] at hh
      split at hh
      · rename_i f' k' n' he
        simp at hh
        subst hh
        have := hs.bnd_run (P := P) (w1 := w1) (y := y) (code := code) he (by omega) (by omega)
        simpa using this
      · simp at hh
    cases lo with
    | none =>
      simp [bnd] at hl
      cases hi with
      | none => simp [bnd] at hh; simp [Instr.sliceBounds]; omega
      | some o => simp [Instr.sliceBounds, r2 _ _ hcap o rfl]; omega
    | some ol =>
      cases hi with
      | none =>
        simp [bnd] at hh
        have hh : xs.length = h' := by omega
        subst hh
        simp [Instr.sliceBounds, r1 xs.length _ (by omega) ol rfl]
      | some o => simp [Instr.sliceBounds, r2 _ _ hcap o rfl, r1 h' _ (by omega) ol rfl]
  generalize hav : a.eval x = v at hv
  have hval : ∀ (ao : Option Addr) (len cap : Nat), v = .slice ao len cap → len = xs.length → len ≤ cap → ∀ w',
      (execOp a.eval ⟨some t, .slice T x lo hi none, ty, pos, af, none⟩).run P w' = .ok (.value (.slice (if cap = l' then ao else ao.map (·.add (l' * e))) (h' - l') (cap - l'))) w' := by
    intro ao len cap e1 e2 e3 w'
    subst e1
    have := hb w' len cap e2 (by omega)
    simp [execOp, Instr.sliceAt, Instr.slice, run_underlying hT, hav, this, sizeOf, typeInfo, hinf, hsz]
  cases hv with
  | nilsl nl e hnl =>
    have hl0 : l' = 0 := by simp at h2; omega
    have hh0 : h' = 0 := by simp at h2; omega
    subst hl0; subst hh0
    refine ⟨_, hval none 0 0 rfl rfl (by omega), ?_⟩
    simp
    exact .pv _ _ _ (.nilsl nl e hnl)
  | sl nl e xs ad len cap fv hnl hsp hlen hcap hg hw hc hr =>
    refine ⟨_, hval (some ad) len cap rfl hlen hcap, ?_⟩
    have hlen2 : ((xs.drop l').take (h' - l')).length = h' - l' := by simp; omega
    have hel : ∀ (i : Nat) (y : PV), ((xs.drop l').take (h' - l'))[i]? = some y → xs[l' + i]? = some y := by
      intro i y hy
      rw [List.getElem?_take] at hy
      split at hy
      · rw [List.getElem?_drop] at hy; exact hy
      · cases hy
    by_cases hcl : cap = l'
    · have e0 : h' - l' = 0 := by omega
      rw [if_pos hcl, e0]
      simp only [List.take_zero]
      exact .pv _ _ _ (.sl nl e [] ad 0 _ (fun _ _ => undef) hnl (fun h => (h rfl).elim) rfl (by omega) (by simp) (by simp) (by simp) (by simp))
    · rw [if_neg hcl]
      by_cases hx0 : xs = []
      · subst hx0
        have e0 : h' - l' = 0 := by simp at h2; omega
        rw [e0]
        simp only [List.drop_nil, List.take_nil, Option.map_some]
        exact .pv _ _ _ (.sl nl e [] _ 0 _ (fun _ _ => undef) hnl (fun h => (h rfl).elim) rfl (by omega) (by simp) (by simp) (by simp) (by simp))
      have hsp := hsp hx0
      have hadd : ad.add (l' * e) = ⟨ad.block, ad.off + l' * e, none⟩ := by
        unfold Addr.add
        split
        · rename_i h0
          rw [h0]
          cases ad
          simp at hsp
          simp [hsp]
        · rw [← hsp]
      simp only [Option.map_some, hadd]
      refine .pv _ _ _ (.sl nl e _ ⟨ad.block, ad.off + l' * e, none⟩ _ _ (fun i j => fv (l' + i) j) hnl (fun _ => rfl) hlen2.symm (by omega) (fun hne => hg (fun h0 => hne (by simp [h0]))) (fun i y hy => hw _ y (hel i y hy)) (fun i y j c hy hcj => ?_) (fun i y j c hy hcj => hr _ y j c (hel i y hy) hcj))
      have := hc _ y j c (hel i y hy) hcj
      rw [← this]
      congr 2
      simp only [Nat.add_mul, Nat.add_assoc]

theorem l0_not {xt : TypeId} {x : Operand} {f : Bool} {b : Bool} (hx : getO s.env x = .pv f (.bool b)) : Lt0 P C s ⟨some t, .unOp .not xt x, ty, pos, af, none⟩ ((.pv true (.bool (!b)))) := by
  intro m a w hs
  have e1 := hs.bool hx
  exact ⟨.bool (!b), fun _ => by simp [execOp, e1, Op.unary], .pv _ _ _ (.bool _)⟩

end
end Go.Vl

namespace Go.Vl
set_option linter.unusedVariables false
set_option linter.unusedSimpArgs false
open Go.Proofs

end Go.Vl

/- Calls by any operation that enters a function: by name, through an interface, of a value. -/
namespace Go.Vl
set_option linter.unusedVariables false
set_option linter.unusedSimpArgs false
open Go.RowKit
section
variable {P : Program} {C : Ctx} {Q : Go.Exit → St → Prop} {s : St}

end
end Go.Vl

namespace Go.Vl
open Go.RowKit
section
variable {P : Program} {C : Ctx} {Q : Go.Exit → St → Prop} {s : St} {ops : Array Oper} {rest : List Oper} {t : Nat} {ty : TypeId} {pos : String} {af : Array Edge}

/-- Which function a method is, for a dynamic type; and what it is given. -/
def MethAt (P : Program) (T : TypeId) (name : String) (p : PV) (F : FuncId) (q : PV) : Prop :=
  ∀ (w : World) (G : Nat → Prop) (v : Value), RP w G p v → ∃ r, (Go.method (P.types.size + Made.depth) T v name).run P w = .ok (F, r) w ∧ RP w G q r

end
end Go.Vl

/- Every order, one by one: for statements where an operation that writes may come before a reading one. -/
namespace Go.Vl
set_option linter.unusedVariables false
set_option linter.unusedSimpArgs false
open Go.RowKit
section
variable {late : List Nat} {P : Program} {C : Ctx} {ops : Array Oper} {K : St → Prop} {s s1 : St} {n : Nat} {listed : Array Bool}
end
section
variable {P : Program} {C : Ctx} {s : St} {t : Nat} {ty : TypeId} {pos : String} {af : Array Edge}
end
end Go.Vl

/- Statements whose order of evaluation is open, with calls that write rows lent to the function: what reads others reads the same behind them. -/
namespace Go.Vl
set_option linter.unusedVariables false
set_option linter.unusedSimpArgs false
open Go.RowKit

/-- All that was there is there as it was, but for some blocks. -/
def ExtB (B : Nat → Prop) (w w' : World) : Prop := w.heap.size ≤ w'.heap.size ∧ ∀ k, k < w.heap.size → ¬ B k → w'.heap[k]? = w.heap[k]?
theorem ExtB.refl (B : Nat → Prop) (w : World) : ExtB B w w := ⟨Nat.le_refl _, fun _ _ _ => rfl⟩
theorem ExtB.trans {B : Nat → Prop} {a b c : World} (h : ExtB B a b) (k : ExtB B b c) : ExtB B a c := ⟨Nat.le_trans h.1 k.1, fun i hi hb => (k.2 i (Nat.lt_of_lt_of_le hi h.1) hb).trans (h.2 i hi hb)⟩
theorem ExtB.cell {B : Nat → Prop} {w w' : World} (h : ExtB B w w') {a : Addr} {v : Value} (hb : ¬ B a.block) (hc : w.cell? a = some v) : w'.cell? a = some v := by
  have hlt : a.block < w.heap.size := by
    rcases Nat.lt_or_ge a.block w.heap.size with h | h
    · exact h
    · unfold World.cell? at hc
      rw [Array.getElem?_eq_none h] at hc
      cases hc
  rw [← hc]
  simp [World.cell?, h.2 _ hlt hb]
/-- The blocks of what was lent to the function. -/
def lentB (C : Ctx) (b : Nat) : Prop := ∃ id, id < C.nb ∧ (C.bv id).S b

section
variable {B : Nat → Prop} {P : Program} {ops : Array Oper} {Q : Go.Exit → Act → World → Prop}
def yieldsB (B : Nat → Prop) (P : Program) (ops : Array Oper) (o : Oper) (v : Value) (a : Act) (w : World) : Prop :=
  (Region.wanted o (yielded ops a.tmps) = true ∧ ∀ w', ExtB B w w' → (execOp a.eval o).run P w' = .ok (.value v) w') ∨ (Region.wanted o (yielded ops a.tmps) = false ∧ v = undef)

theorem yieldsB.step {o : Oper} {v : Value} {a a' : Act} {w w' : World} (h : yieldsB B P ops o v a w) (hx : ExtB B w w') (he : execOp a'.eval o = execOp a.eval o)
    (hw : Region.wanted o (yielded ops a'.tmps) = Region.wanted o (yielded ops a.tmps)) : yieldsB B P ops o v a' w' := by
  unfold yieldsB at *
  rw [he, hw]
  exact h.imp (fun h => ⟨h.1, fun w2 h2 => h.2 w2 (hx.trans h2)⟩) id

theorem yieldsB.op {i : Nat} {o : Oper} {v : Value} {a : Act} {w : World} (hi : ops[i]? = some o) (hy : yieldsB B P ops o v a w) {K : Act → World → Prop} (h : K (a.put o.dst v) w) : wpOp P ops Q i K a w := by
  unfold wpOp
  simp only [hi]
  rcases hy with ⟨hw, hv⟩ | ⟨hw, rfl⟩
  · simp only [hw, if_true, Oper.wp, hv w (ExtB.refl B w), Oper.upon]; exact .inl h
  · simp only [hw, Bool.false_eq_true, if_false]; exact h

/-- Whatever order is picked; each step leaves all that was there as it was, or is one of those that come late. -/
def anyLB (B : Nat → Prop) (late : List Nat) (P : Program) (ops : Array Oper) (Q : Go.Exit → Act → World → Prop) : Nat → Array Bool → Act → World → Prop
  | 0, listed, a, w => Region.ready .any ops listed = [] ∧ Q .normal a w
  | n + 1, listed, a, w => (Region.ready .any ops listed = [] → Q .normal a w) ∧
      ∀ i ∈ Region.ready .any ops listed, wpOp P ops Q i (fun a' w' => (ExtB B w w' ∨ late.contains i = true) ∧ anyLB B late P ops Q n (listed.setIfInBounds i true) a' w') a w

end

def LtB (P : Program) (C : Ctx) (s : St) (o : Oper) (sv : SV) : Prop :=
  ∀ m a w, SimM C s m a w → ∃ v, (∀ w', ExtB (lentB C) w w' → (execOp a.eval o).run P w' = .ok (.value v) w') ∧ RS w (Gd C s.rows m w) m s.rows.length sv v
def VLB (late : List Nat) (P : Program) (C : Ctx) (ops : Array Oper) (n : Nat) (listed : Array Bool) (K : St → Prop) (s : St) : Prop := ∀ m a w, SimM C s m a w → anyLB (lentB C) late P ops (post0 C K) n listed a w

section
variable {late : List Nat} {P : Program} {C : Ctx} {ops : Array Oper} {K : St → Prop} {s : St} {n : Nat} {listed : Array Bool}

end
section
variable {late : List Nat} {P : Program} {C : Ctx} {ops : Array Oper} {K : St → Prop} {s s1 : St} {n : Nat} {listed : Array Bool}
def StepB (late : List Nat) (P : Program) (C : Ctx) (ops : Array Oper) (n : Nat) (listed : Array Bool) (K : St → Prop) (s : St) (i : Nat) : Prop :=
  ∀ m a w, SimM C s m a w → wpOp P ops (post0 C K) i (fun a' w' => (ExtB (lentB C) w w' ∨ late.contains i = true) ∧ anyLB (lentB C) late P ops (post0 C K) n (listed.setIfInBounds i true) a' w') a w
end
section
variable {P : Program} {C : Ctx} {s : St} {t : Nat} {ty : TypeId} {pos : String} {af : Array Edge}
end
section
variable {late : List Nat} {P : Program} {C : Ctx} {ops : Array Oper} {K : St → Prop} {s : St} {n : Nat} {listed : Array Bool}
end
end Go.Vl

/- More for such statements: what is taken out of a row; nil cells of rows. -/
namespace Go.Vl
set_option linter.unusedVariables false
set_option linter.unusedSimpArgs false
open Go.RowKit
section
variable {late : List Nat} {P : Program} {C : Ctx} {ops : Array Oper} {K : St → Prop} {s : St} {n : Nat} {listed : Array Bool}
/-- An operation that leaves all memory as it is, or makes new: what is told of it is not known at once. -/
def XtE (P : Program) (C : Ctx) (s : St) (o : Oper) (α : Type) (s1 : α → St) (sv : SV) : Prop :=
  ∀ m a w, SimM C s m a w → ∃ x v w' m', (execOp a.eval o).run P w = .ok (.value v) w' ∧ SimM C (s1 x) m' a w' ∧ RS w' (Gd C (s1 x).rows m' w') m' (s1 x).rows.length sv v ∧ ExtW w w'
end
section
variable {P : Program} {C : Ctx} {Q : Go.Exit → St → Prop} {s : St} {ops : Array Oper} {rest : List Oper} {t : Nat} {ty : TypeId} {pos : String} {af : Array Edge}
end
section
variable {late : List Nat} {P : Program} {C : Ctx} {ops : Array Oper} {K : St → Prop} {s : St} {n : Nat} {listed : Array Bool}
end
end Go.Vl

namespace Go.Vl
set_option linter.unusedVariables false
set_option linter.unusedSimpArgs false
open Go.Proofs
def smX (X : WorksM) : Prop := (1 ≤ X.bases.length ∧ X.bases.length ≤ 9 ∧ ∀ l ∈ X.bases, l.length ≤ 3) ∧ (X.abs.length = X.bases.length ∧ ∀ l ∈ X.abs, l.length ≤ 5) ∧ X.real.length = X.bases.length ∧ ∀ l ∈ X.real, l.length ≤ 5
def medX (X : WorksM) : Prop := (1 ≤ X.bases.length ∧ X.bases.length ≤ 9 ∧ ∀ l ∈ X.bases, l.length ≤ 3) ∧ (X.abs.length = X.bases.length ∧ ∀ l ∈ X.abs, l.length ≤ 7) ∧ X.real.length = X.bases.length ∧ ∀ l ∈ X.real, l.length ≤ 7
end Go.Vl

namespace Go.Vl
set_option linter.unusedVariables false
set_option linter.unusedSimpArgs false
open Go.Proofs

end Go.Vl

namespace Go.Vl
set_option linter.unusedVariables false
set_option linter.unusedSimpArgs false
open Go.Proofs

end Go.Vl

/- Arguments of which less is said: what a contract says of those holds of them. -/
namespace Go.Vl
set_option linter.unusedVariables false
set_option linter.unusedSimpArgs false
open Go.RowKit

mutual
def PV.wk : PV → PV
  | .sl _ e xs => .sl none e (PV.wks xs)
  | .agg cs => .agg (PV.wks cs)
  | p => p
def PV.wks : List PV → List PV
  | [] => []
  | x :: xs => x.wk :: PV.wks xs
end
theorem PV.wks_map : ∀ l : List PV, PV.wks l = l.map PV.wk
  | [] => by simp [PV.wks]
  | x :: l => by simp [PV.wks, PV.wks_map l]
theorem PV.wk_sl (nl : Option Bool) (e : Nat) (xs : List PV) : (PV.sl nl e xs).wk = .sl none e (xs.map PV.wk) := by simp [PV.wk, PV.wks_map]
theorem PV.wk_agg (cs : List PV) : (PV.agg cs).wk = .agg (cs.map PV.wk) := by simp [PV.wk, PV.wks_map]
theorem PV.wk_int (k : IntKind) (n : Int) : (PV.int k n).wk = .int k n := by simp [PV.wk]
theorem PV.wk_bool (b : Bool) : (PV.bool b).wk = .bool b := by simp [PV.wk]
theorem PV.wk_isAgg (p : PV) : p.wk.isAgg = p.isAgg := by cases p <;> simp [PV.wk, PV.isAgg]
theorem PV.wk_cells (p : PV) : p.wk.cells = p.cells.map PV.wk := by
  cases p <;> simp [PV.wk, PV.cells, PV.wks_map]
theorem PV.wk_fits {p : PV} {e : Nat} (h : p.fits e) : p.wk.fits e := by
  refine ⟨by rw [PV.wk_cells, List.length_map]; exact h.1, fun j c hc => ?_⟩
  rw [PV.wk_cells] at hc
  simp only [List.getElem?_map, Option.map_eq_some_iff] at hc
  obtain ⟨c', hc', rfl⟩ := hc
  rw [PV.wk_isAgg]; exact h.2 j c' hc'
theorem RP.wk {w : World} {G : Nat → Prop} {p : PV} {v : Value} (h : RP w G p v) : RP w G p.wk v := by
  induction h with
  | int k n => rw [PV.wk_int]; exact .int k n
  | bool b => rw [PV.wk_bool]; exact .bool b
  | str s => simp only [PV.wk]; exact .str s
  | nilsl nl e h => rw [PV.wk_sl]; exact .nilsl none e (by simp)
  | sl nl e xs a len cap f h hs hl hcap hg hw hc hr ih =>
    rw [PV.wk_sl]
    refine .sl none e _ a len cap f (by simp) (fun h => hs (by simpa using h)) (by simpa using hl) hcap (fun h => hg (by simpa using h)) (fun i x hx => ?_) (fun i x j c hx hcj => ?_) (fun i x j c hx hcj => ?_)
    · simp only [List.getElem?_map, Option.map_eq_some_iff] at hx
      obtain ⟨x', hx', rfl⟩ := hx
      exact PV.wk_fits (hw i x' hx')
    · simp only [List.getElem?_map, Option.map_eq_some_iff] at hx
      obtain ⟨x', hx', rfl⟩ := hx
      rw [PV.wk_cells] at hcj
      simp only [List.getElem?_map, Option.map_eq_some_iff] at hcj
      obtain ⟨c', hc', rfl⟩ := hcj
      exact hc i x' j c' hx' hc'
    · simp only [List.getElem?_map, Option.map_eq_some_iff] at hx
      obtain ⟨x', hx', rfl⟩ := hx
      rw [PV.wk_cells] at hcj
      simp only [List.getElem?_map, Option.map_eq_some_iff] at hcj
      obtain ⟨c', hc', rfl⟩ := hcj
      exact ih i x' j c' hx' hc'
  | agg cs vs hl h1 h ih =>
    rw [PV.wk_agg]
    refine .agg _ vs (by simpa using hl) (fun j c hc => ?_) (fun j c v hc hv => ?_)
    · simp only [List.getElem?_map, Option.map_eq_some_iff] at hc
      obtain ⟨c', hc', rfl⟩ := hc
      rw [PV.wk_isAgg]; exact h1 j c' hc'
    · simp only [List.getElem?_map, Option.map_eq_some_iff] at hc
      obtain ⟨c', hc', rfl⟩ := hc
      exact ih j c' v hc' hv
  | gone v h => simp only [PV.wk]; exact .gone v h
  | ifc t p v h ih => simp only [PV.wk]; exact .ifc t p v h
  | nilifc => simp only [PV.wk]; exact .nilifc
  | fn f cs us a g hl hp hg h1 hc hr => simp only [PV.wk]; exact .fn f cs us a g hl hp hg h1 hc hr

def SV.wk : SV → SV
  | .pv f p => .pv f p.wk
  | s => s

theorem SatAt.wk {P : Program} {f : FuncId} {args args2 : List SV} {rows : List Row} {R : List SV → List Row → Prop} (e : args.map SV.wk = args2) (h : SatAt P f args2 rows R) : SatAt P f args rows R := by
  subst e
  intro C m vals hnb hA hv hs
  refine h C m vals hnb hA (by simpa using hv) { hs with env := fun t => ?_ }
  have := hs.env t
  show RS _ _ _ _ (look (enumE 0 (args.map SV.wk)) t) _
  change RS _ _ _ _ (look (enumE 0 args) t) _ at this
  rw [look_enumE] at this ⊢
  simp only [Nat.zero_le, if_true, Nat.sub_zero, List.getElem?_map] at this ⊢
  cases ht : args[t]? with
  | none => rw [ht] at this; simpa using this
  | some x =>
    rw [ht] at this
    simp only [Option.getD_some, Option.map_some] at this ⊢
    generalize vals.getD t undef = v at this ⊢
    cases this with
    | pv fr p v hp => exact .pv _ _ _ hp.wk
    | any v => exact .any v
    | val u => exact .val _
    | und => exact .und
    | ref id h => exact .ref id h
    | ptr id e i o b hid h => exact .ptr id e i o b hid h
    | adr fr cs a f hs hg h1 hc hr => exact .adr fr cs a f hs hg h1 hc hr
    | tup vs us hl h => exact .tup vs us hl h
    | ag vs us hl h h1 => exact .ag vs us hl h h1
    | sub id e l h c v hid hs => exact .sub id e l h c _ hid hs
    | clo f ids us hl h => exact .clo f ids us hl h
end Go.Vl

/- An operation that makes memory, under a guard; 'make' in a statement whose order of evaluation is open. -/
namespace Go.Vl
set_option linter.unusedVariables false
set_option linter.unusedSimpArgs false
open Go.RowKit
section
variable {late : List Nat} {P : Program} {C : Ctx} {ops : Array Oper} {K : St → Prop} {s s1 : St} {n : Nat} {listed : Array Bool}
end
section
variable {P : Program} {C : Ctx} {s : St} {t : Nat} {ty : TypeId} {pos : String} {af : Array Edge}
end
end Go.Vl

namespace Go.Vl
set_option linter.unusedVariables false
set_option linter.unusedSimpArgs false
open Go.Proofs

def mkReal (X : WorksM) (k : Nat) : List (List Int) := (List.range k).map fun i => X.real.getD i [] ++ X.abs.getD i []
def madeW (X : WorksM) : WorksM := ⟨X.bases, List.replicate X.bases.length [], mkReal X X.bases.length⟩
end Go.Vl
