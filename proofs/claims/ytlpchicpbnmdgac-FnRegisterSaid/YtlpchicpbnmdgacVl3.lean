/- Part 3 of the texts that the proof of FnRegister is built on. -/
import Derived.Test.YtlpchicpbnmdgacVl2
import Derived.Deep.MidRow
import Derived.Laws.StructEq
import Derived.MapKept
import Derived.Test.YtlpchicpbnmdgacProg
import Derived.KernelRfl
import Derived.ProofKit
import Derived.OpenShut
import Derived.Below
import Derived.Deep.Matrix
import Derived.ChangeArms
import Derived.ChangeSame
import Derived.Lib.AppendZeros
import Derived.Sort.OwnSortedInts
import Derived.Shelf.Slices.CompactI
/- Loops in which most slots, and perhaps all rows, stay as they are. -/
namespace Go.Vl
set_option linter.unusedVariables false
set_option linter.unusedSimpArgs false
open Go.RowKit

section
variable {P : Program} {C : Ctx} {Q : Go.Exit → St → Prop} {s : St}

/-- What a round of such a loop must come to. -/
def againF (N : Nat) (Lf Lv : List Nat) (k : Nat) (F : List SV) (R : List Row) (I : Nat → List SV → Prop) (n : Nat) (s' : St) : Prop :=
  again N (Lf ++ Lv) k (fun m us rows => (us.take Lf.length = F ∧ rows = R) ∧ I m (us.drop Lf.length)) n s'
def againV (N : Nat) (Lf Lv : List Nat) (k : Nat) (F : List SV) (I : Nat → List SV → List Row → Prop) (n : Nat) (s' : St) : Prop :=
  again N (Lf ++ Lv) k (fun m us rows => us.take Lf.length = F ∧ I m (us.drop Lf.length) rows) n s'

/-- A loop whose slots Lf stay as they are, F, and its rows R; the slots Lv turn. -/
theorem vc_loopF {c : Code} (Lf Lv : List Nat) (F : List SV) (R : List Row) (I : Nat → List SV → Prop) (n0 : Nat) (hF : (Lf.map fun t => look s.env t) = F) (hR : s.rows = R) (hnb : C.nb ≤ R.length)
    (hb0 : F.all (SV.bdd R.length) = true ∧ (Lv.map fun t => look s.env t).all (SV.bdd R.length) = true ∧ R.all (Row.bdd R.length) = true)
    (h0 : I n0 (Lv.map fun t => look s.env t))
    (hround : ∀ n vs, vs.length = Lv.length → I n vs → VC P C c (thn (againF s.n Lf Lv R.length F R I n) Q) ⟨s.n, Lf.zip F ++ Lv.zip vs, R⟩) :
    VC P C (.loop c) Q s := by
  subst hR
  subst hF
  have hl : (Lf.map fun t => look s.env t).length = Lf.length := by simp
  refine vc_loop (Lf ++ Lv) (fun m us rows => (us.take Lf.length = (Lf.map fun t => look s.env t) ∧ rows = s.rows) ∧ I m (us.drop Lf.length)) n0 hnb ⟨?_, hb0.2.2⟩ ⟨⟨?_, rfl⟩, ?_⟩ ?_
  · rw [List.map_append, List.all_append, hb0.1, hb0.2.1]; rfl
  · rw [List.map_append]; simp
  · rw [List.map_append, show Lf.length = (Lf.map fun t => look s.env t).length from hl.symm, List.drop_left]; exact h0
  · rintro n vs rows hv - ⟨⟨h1, rfl⟩, h2⟩
    have hv' : vs.length = Lf.length + Lv.length := by simpa using hv
    have := hround n (vs.drop Lf.length) (by simp; omega) h2
    have e : (Lf ++ Lv).zip vs = Lf.zip (Lf.map fun t => look s.env t) ++ Lv.zip (vs.drop Lf.length) := by
      rw [← h1]
      conv => lhs; rw [← List.take_append_drop Lf.length vs]
      exact List.zip_append (by simp; omega)
    rw [e]
    exact this

theorem againF_mk {N : Nat} {Lf Lv : List Nat} {k : Nat} {F : List SV} {R : List Row} {I : Nat → List SV → Prop} {n : Nat} {s' : St} (h0 : Nat.beq s'.n N = true) (h1 : Nat.ble k s'.rows.length = true)
    (h2 : ((Lf ++ Lv).map fun t => look s'.env t).all (SV.bdd k) = true) (h3 : (s'.rows.take k).all (Row.bdd k) = true)
    (hF : (Lf.map fun t => look s'.env t) = F) (hR : s'.rows.take k = R)
    (h : ∃ n', n' < n ∧ I n' (Lv.map fun t => look s'.env t)) : againF N Lf Lv k F R I n s' := by
  refine ⟨⟨Nat.eq_of_beq_eq_true h0, Nat.le_of_ble_eq_true h1, h2, h3⟩, ?_⟩
  obtain ⟨n', hn, hI⟩ := h
  refine ⟨n', hn, ⟨?_, hR⟩, ?_⟩
  · rw [List.map_append, ← hF]; simp
  · rw [List.map_append, show Lf.length = (Lf.map fun t => look s'.env t).length by simp, List.drop_left]; exact hI

end
end Go.Vl

/- Structs as values: variables of their own, loads and stores of whole ones, their fields, and functions that hand them back. -/
namespace Go.Vl
set_option linter.unusedVariables false
set_option linter.unusedSimpArgs false
open Go.RowKit

/-- A struct's cells, its zero value. -/
structure StZ (P : Program) (S : TypeId) (zs : List PV) : Prop where
  und : ∃ fs, P.underlying S = some (.struct fs)
  inf : ∃ i zc, P.info? S = some i ∧ i.size = zs.length ∧ i.zero = some (.agg zc) ∧ ∀ w G, RP w G (.agg zs) (.agg zc)

/-- The values of a variable's cells. -/
def collectC : List SV → Option (Bool × List PV)
  | [] => some (true, [])
  | .pv f p :: r => match collectC r with
    | some (f', ps) => some ((f || p.scal) && f', p :: ps)
    | none => none
  | _ :: _ => none

theorem collectC_get : ∀ {l : List SV} {f : Bool} {ps : List PV}, collectC l = some (f, ps) → l.length = ps.length ∧ ∀ (j : Nat) (p : PV), ps[j]? = some p → ∃ g, l[j]? = some (.pv g p) ∧ (f = true → (g || p.scal) = true)
  | [], f, ps, h => by simp [collectC] at h; obtain ⟨rfl, rfl⟩ := h; exact ⟨rfl, fun j p hp => by simp at hp⟩
  | .pv g p :: r, f, ps, h => by
    simp only [collectC] at h
    split at h
    · rename_i f' ps' hr
      simp at h
      obtain ⟨rfl, rfl⟩ := h
      obtain ⟨h1, h2⟩ := collectC_get hr
      refine ⟨by simp [h1], fun j q hq => ?_⟩
      cases j with
      | zero => simp at hq; subst hq; exact ⟨g, rfl, fun h => by simp at h; simp [h.1]⟩
      | succ j =>
        obtain ⟨g', h3, h4⟩ := h2 j q (by simpa using hq)
        exact ⟨g', by simpa using h3, fun h => by simp only [Bool.and_eq_true] at h; exact h4 h.2⟩
    · cases h
  | .ref _ :: _, _, _, h => by simp [collectC] at h
  | .ptr _ _ _ _ :: _, _, _, h => by simp [collectC] at h
  | .adr _ _ :: _, _, _, h => by simp [collectC] at h
  | .tup _ :: _, _, _, h => by simp [collectC] at h
  | .und :: _, _, _, h => by simp [collectC] at h
  | .any :: _, _, _, h => by simp [collectC] at h

theorem RP.notAgg {w : World} {G : Nat → Prop} {p : PV} {v : Value} (h : RP w G p v) (h1 : v.oneCell' = true) : p.isAgg = false := by
  cases h <;> first | rfl | simp [Value.oneCell'] at h1

theorem RP.flag {w : World} {G : Bool → Nat → Prop} (hw : ∀ b, G true b → G false b) {g f : Bool} {p : PV} {v : Value} (h : RP w (G g) p v) (hf : f = true → (g || p.scal) = true) : RP w (G f) p v := by
  cases hsc : p.scal with
  | true => exact h.scal_any hsc
  | false =>
    cases f with
    | true => have := hf rfl; rw [hsc] at this; simp at this; subst this; exact h
    | false =>
      cases g with
      | true => exact h.mono fun b hb => ⟨hw b hb, rfl⟩
      | false => exact h

section
variable {P : Program} {C : Ctx} {Q : Go.Exit → St → Prop} {s : St} {ops : Array Oper} {rest : List Oper} {t : Nat} {ty : TypeId} {pos : String} {af : Array Edge}

theorem vo_alloc {S : TypeId} {zs : List PV} (hZ : StZ P S zs) (ht : Nat.blt t s.n = true)
    (next : VO P C ops rest Q ⟨s.n, (t, .ptr s.rows.length 0 0 0) :: s.env, s.rows ++ [.var S (zs.map fun c => .pv true c)]⟩) :
    VO P C ops (⟨some t, .alloc S, ty, pos, af, none⟩ :: rest) Q s := by
  refine vo_value (s1 := { s with rows := s.rows ++ [.var S (zs.map fun c => .pv true c)] }) (sv := .ptr s.rows.length 0 0 0) ht (fun m a w hs => ?_) next
  obtain ⟨_, i, zc, hi, hsz, hz, hr⟩ := hZ
  have hrp := hr w (fun _ => False)
  have hlen : zc.size = zs.length := by cases hrp with | agg _ _ hl => exact hl
  have hadd := hs.addRow (w' := w.alloc (.cells zc S)) (World.grownBy_alloc w _ none) (.var S (zs.map fun c => .pv true c)) (.of <| .pointer (some ⟨w.heap.size, 0, none⟩))
    (fun b hb => by simp [MV.of, blk] at hb; omega) (fun hG => .var w.heap.size S _ zc (heap_alloc_new w _) (by simpa using hlen) (fun j c u hc hu => by
      simp only [List.getElem?_map, Option.map_eq_some_iff] at hc
      obtain ⟨c', hc', rfl⟩ := hc
      have := hr (w.alloc (.cells zc S)) (Gd C (s.rows ++ [.var S (zs.map fun c => .pv true c)]) (updM m s.rows.length (.of <| .pointer (some ⟨w.heap.size, 0, none⟩))) (w.alloc (.cells zc S)) true)
      cases this with
      | agg _ _ _ _ h => exact .pv _ _ _ (h j c' u hc' hu)) (fun j u hu => by
      cases hrp with
      | agg _ _ hl h1 h =>
        have hj : j < zs.length := by rw [← hl]; exact (Array.getElem?_eq_some_iff.1 hu).1
        have hc := List.getElem?_eq_getElem hj
        exact (h j _ u hc hu).oneCell (h1 j _ hc)))
  refine ⟨.pointer (some ⟨w.heap.size, 0, none⟩), _, _, ?_, hadd.1, ?_⟩
  · simp [execOp, Instr.alloc, zeroValue, typeInfo, hi, hz, newVar, newRow, Value.cells]
  · exact .ptr s.rows.length 0 0 0 w.heap.size (by simp) (by rw [updM_same]; rfl)

/-- The cells of a variable, as they lie. -/
theorem SimM.var {m : Nat → MV} {a : Act} {w : World} (h : SimM C s m a w) {x : Operand} {id e i o R : Nat} {cs : List SV} (hx : getO s.env x = .ptr id e i o) (hrow : s.rows[id]? = some (.var R cs)) :
    ∃ (b : Nat) (cur : Array Value), a.eval x = .pointer (some ⟨b, i * e + o, none⟩) ∧ (m id) = .of (.pointer (some ⟨b, 0, none⟩)) ∧ w.heap[b]? = some (.cells cur R (0, 0)) ∧ cur.size = cs.length ∧
      (∀ (j : Nat) (c : SV) (u : Value), cs[j]? = some c → cur[j]? = some u → RS w (Gd C s.rows m w) m s.rows.length c u) ∧ ∀ (j : Nat) (u : Value), cur[j]? = some u → u.oneCell' = true := by
  obtain ⟨b, hv, hb, hid⟩ := h.ptr hx
  have hR := h.rows id _ hrow
  generalize hmv : m id = v at *
  cases hR with
  | var b' t' cs cur hbk hl hr h1 =>
    simp only [MV.of, blk, Option.some.injEq] at hb
    subst hb
    exact ⟨b', cur, hv, rfl, hbk, hl, hr, h1⟩

/-- A struct is read where nobody writes any more. -/
theorem lt_load_adrS {x : Operand} {T n : Nat} {cs : List PV} {f : Bool} {D : TypeDesc} {inf : TypeInfo} (hx : getO s.env x = .adr f cs)
    (hT : P.underlying T = some D) (hD : D.isRow = true) (hinf : P.info? T = some inf) (hsz : inf.size = n) (hle : Nat.ble n cs.length = true) :
    Lt P C s ⟨some t, .load T x, ty, pos, af, none⟩ (.pv f (.agg (cs.take n))) := by
  intro m a w hs
  have hle := Nat.le_of_ble_eq_true hle
  have hv := hs.get x
  rw [hx] at hv
  generalize hav : a.eval x = v at hv
  cases hv with
  | adr _ _ ad fv hsp hg h1 hc hr =>
    have e0 : ad = ⟨ad.block, ad.off, none⟩ := by obtain ⟨b, o, sp⟩ := ad; simp only at hsp; subst hsp; rfl
    have hlen : ((List.range n).map fv).length = n := by simp
    refine ⟨.agg ((List.range n).map fv).toArray, fun w' hw' => ?_, ?_⟩
    · have := run_loadAt_mid (P := P) w' ad.block ad.off T ((List.range n).map fv) D (fun j u hj => ?_) hT hD (by rw [hinf]; simp [hsz])
      · rw [e0] at hav
        simp [execOp, hav, this]
      · have hjn : j < n := by rw [← hlen]; exact (List.getElem?_eq_some_iff.1 hj).1
        simp [hjn] at hj
        subst hj
        exact hw'.cell (hc j _ (List.getElem?_eq_getElem (by omega)))
    · refine .pv _ _ _ (.agg _ _ (by simp; omega) (fun j c hj => ?_) (fun j c u hj hu => ?_))
      · rw [List.getElem?_take] at hj
        split at hj
        · exact h1 j c hj
        · cases hj
      · rw [List.getElem?_take] at hj
        split at hj
        · rename_i hjn
          simp [hjn] at hu
          subst hu
          exact hr j c hj
        · cases hj

theorem vo_load_adrS {x : Operand} {T n : Nat} {cs : List PV} {f : Bool} {D : TypeDesc} {inf : TypeInfo} (ht : Nat.blt t s.n = true) (hx : getO s.env x = .adr f cs)
    (hT : P.underlying T = some D) (hD : D.isRow = true) (hinf : P.info? T = some inf) (hsz : inf.size = n) (hle : Nat.ble n cs.length = true)
    (next : VO P C ops rest Q (s.put t (.pv f (.agg (cs.take n))))) : VO P C ops (⟨some t, .load T x, ty, pos, af, none⟩ :: rest) Q s := vo_pure ht (lt_load_adrS hx hT hD hinf hsz hle) next

/-- A struct is written into a variable. -/
theorem vo_store_varS {x y : Operand} {T id e i o R : Nat} {cs : List SV} {f : Bool} {ps : List PV} {inf : TypeInfo} (hx : getO s.env x = .ptr id e i o) (hrow : s.rows[id]? = some (.var R cs))
    (hy : getO s.env y = .pv f (.agg ps)) (hinf : P.info? T = some inf) (hsz : inf.size = ps.length) (hle : Nat.ble (i * e + o + ps.length) cs.length = true)
    (next : VO P C ops rest Q ⟨s.n, s.env, s.rows.set id (.var R (cs.take (i * e + o) ++ ps.map (fun p => .pv (f || p.scal) p) ++ cs.drop (i * e + o + ps.length)))⟩) :
    VO P C ops (⟨none, .store T x y, ty, pos, af, none⟩ :: rest) Q s := by
  refine vo_unit (s1 := { s with rows := s.rows.set id (.var R (cs.take (i * e + o) ++ ps.map (fun p => .pv (f || p.scal) p) ++ cs.drop (i * e + o + ps.length))) }) (fun m a w hs => ?_) next
  have hle := Nat.le_of_ble_eq_true hle
  obtain ⟨b, cur, hv, hm, hbk, hl, hr, h1⟩ := hs.var hx hrow
  have hvy := hs.get y
  rw [hy] at hvy
  have hvy := hvy.pv_inv
  generalize hav : a.eval y = v at hvy
  cases hvy with
  | agg _ vs hvl h2 h =>
    have hone : ∀ u ∈ vs.toList, u.oneCell' = true := by
      intro u hu
      obtain ⟨j, hj⟩ := List.getElem?_of_mem hu
      have hjl : j < ps.length := by rw [← hvl]; simpa using (List.getElem?_eq_some_iff.1 hj).1
      have hc := List.getElem?_eq_getElem hjl
      exact (h j _ u hc (by simpa using hj)).oneCell (h2 j _ hc)
    have hrun := run_storeCells_at P b (i * e + o) R vs.toList 0 cur w hbk (by simp; omega) hone
    simp only [Nat.add_zero, Array.length_toList, hvl] at hrun
    let cur' := (cur.toList.take (i * e + o) ++ vs.toList ++ cur.toList.drop (i * e + o + ps.length)).toArray
    refine ⟨w.setRow b cur', m, ?_, ?_⟩
    · simp [execOp, Instr.storeAt, hv, hav, Instr.sureAddr, storeVar, sizeOf, typeInfo, hinf, hsz, Value.cells, hvl, hrun, cur']
    · refine hs.storeRow ⟨_, hrow, rfl⟩ (fun b' e => by cases e; rw [hm]; rfl) (grown_setRow w b cur') _ (fun hG => ?_)
      rw [hm]
      have hheap := setRow_heap w b cur cur' R _ hbk
      have hget : ∀ j, cur'[j]? = if j < i * e + o then cur[j]? else if j < i * e + o + ps.length then vs[j - (i * e + o)]? else cur[j]? := by
        intro j
        simp only [cur', List.getElem?_toArray]
        rw [List.getElem?_append, List.getElem?_append]
        simp only [List.length_append, List.length_take, Array.length_toList, hvl]
        have e1 : min (i * e + o) cur.size = i * e + o := by omega
        rw [e1]
        split
        · split
          · rw [List.getElem?_take, if_pos (by assumption)]; simp
          · simp
        · rw [List.getElem?_drop, show i * e + o + ps.length + (j - (i * e + o + ps.length)) = j by omega]; simp
      have hget2 : ∀ j, (cs.take (i * e + o) ++ ps.map (fun p => SV.pv (f || p.scal) p) ++ cs.drop (i * e + o + ps.length))[j]? = if j < i * e + o then cs[j]? else if j < i * e + o + ps.length then (ps.map (fun p => SV.pv (f || p.scal) p))[j - (i * e + o)]? else cs[j]? := by
        intro j
        rw [List.getElem?_append, List.getElem?_append]
        simp only [List.length_append, List.length_take, List.length_map]
        have e1 : min (i * e + o) cs.length = i * e + o := by omega
        rw [e1]
        split
        · split
          · rw [List.getElem?_take, if_pos (by assumption)]
          · rfl
        · rw [if_neg (by omega), List.getElem?_drop, show i * e + o + ps.length + (j - (i * e + o + ps.length)) = j by omega]
      refine .var b R _ cur' hheap (by simp [cur']; omega) (fun j c u hc hu => ?_) (fun j u hu => ?_)
      · rw [hget2] at hc
        rw [hget] at hu
        split at hc
        · rename_i h3; rw [if_pos h3] at hu; exact (hr j c u hc hu).mono hG (Nat.le_refl _) (fun _ _ => rfl)
        · rename_i h3
          rw [if_neg h3] at hu
          split at hc
          · rename_i h4
            rw [if_pos h4] at hu
            simp only [List.getElem?_map, Option.map_eq_some_iff] at hc
            obtain ⟨c', hc', rfl⟩ := hc
            have hp := h _ c' u hc' hu
            cases hsc : c'.scal with
            | true => simp only [Bool.or_true]; exact .pv _ _ _ (hp.scal_any hsc)
            | false => simp only [Bool.or_false]; exact .pv _ _ _ (hp.mono (hG f))
          · rename_i h4; rw [if_neg h4] at hu; exact (hr j c u hc hu).mono hG (Nat.le_refl _) (fun _ _ => rfl)
      · rw [hget] at hu
        split at hu
        · exact h1 j u hu
        · split at hu
          · exact hone u (by rw [Array.mem_toList_iff]; exact Array.mem_of_getElem? hu)
          · exact h1 j u hu
end
end Go.Vl

/- Functions that hand back structs: the way in, and what is handed back. -/
namespace Go.Vl
set_option linter.unusedVariables false
set_option linter.unusedSimpArgs false
open Go.RowKit

/-- What a result holds at a function's end. -/
def resSV (s : St) : Nat × Option (Nat × Nat) → SV
  | (t, none) => look s.env t
  | (a, some _) => match look s.env a with
    | .ptr id 0 0 0 => match s.rows[id]? with
      | some (.var _ cs) => match collectC cs with
        | some (f, ps) => .pv f (.agg ps)
        | none => .any
      | _ => .any
    | _ => .any

def resVar : Nat × Option (Nat × Nat) → ResultVar
  | (t, none) => .tmp t
  | (a, some (T, _)) => .cell a T

/-- Is the result there? -/
def resOK (s : St) : Nat × Option (Nat × Nat) → Bool
  | (_, none) => true
  | (a, some (_, n)) => match look s.env a with
    | .ptr id 0 0 0 => match s.rows[id]? with
      | some (.var _ cs) => Nat.beq cs.length n && (collectC cs).isSome
      | _ => false
    | _ => false

/-- The types of the results that lie in memory. -/
def resT (P : Program) : Nat × Option (Nat × Nat) → Prop
  | (_, none) => True
  | (_, some (T, n)) => ∃ D inf, P.underlying T = some D ∧ D.isRow = true ∧ P.info? T = some inf ∧ inf.size = n

def resM (tmps : Array Value) : ResultVar → Sem Value
  | .tmp t => pure (tmps.getD t undef)
  | .cell a t => do loadVar t (← asAddr (tmps.getD a undef))

theorem results_eq (fn : Func) (tmps : Array Value) : results fn tmps = (do
  let vs ← fn.results.mapM (resM tmps)
  pure (if h : vs.size = 1 then vs[0] else .tuple vs)) := by
  unfold results
  congr 1

theorem ElInfo.of_struct {P : Program} {T el by' : Nat} {zs : List PV} (hT : P.underlying T = some (.slice el)) (hZ : StZ P el zs) (hb : ∀ i, P.info? el = some i → i.bytes = by') (h0 : zs ≠ []) : ElInfo P T el zs.length by' (.agg zs) := by
  obtain ⟨_, i, zc, hi, hs, hz, hr⟩ := hZ
  have h := hr default (fun _ => False)
  cases h with
  | agg _ _ hl h1 h =>
    exact ⟨hT, ⟨i, .agg zc, hi, hs, hb i hi, hz, hl, hr⟩, ⟨rfl, h1⟩, List.length_pos_iff.2 h0⟩

section
variable {P : Program}

theorem resTs1 {r1 : Nat × Option (Nat × Nat)} (h1 : resT P r1) : ∀ r ∈ [r1], resT P r := by simp [h1]
theorem resTs2 {r1 r2 : Nat × Option (Nat × Nat)} (h1 : resT P r1) (h2 : resT P r2) : ∀ r ∈ [r1, r2], resT P r := by simp [h1, h2]
/-- What is handed back at such a function's end: values alone; no new rows. -/
def retS (rs : List (Nat × Option (Nat × Nat))) (k : Nat) (R : List SV → List Row → Prop) (e : Go.Exit) (s : St) : Prop :=
  (e = .normal ∨ e = .ret) ∧ (k ≤ s.rows.length ∧ (rs.map (resSV s)).all (SV.bdd k) = true ∧ (s.rows.take k).all (Row.bdd k) = true ∧ rs.all (resOK s) = true) ∧ R (rs.map (resSV s)) (s.rows.take k)

end
end Go.Vl

/- Rows whose slices are their own: made, written, lent in part. -/
namespace Go.Vl
set_option linter.unusedVariables false
set_option linter.unusedSimpArgs false
open Go.RowKit

/-- No slice but the nil one. -/
def plainB : PV → Bool
  | .sl (some true) _ [] => true
  | p => p.scal

def plainX (xs : List PV) : Prop := ∀ x ∈ xs, ∀ c ∈ x.cells, plainB c = true
theorem oneCell_cells {u : Value} (h : u.oneCell' = true) : u.cells.toList = [u] := by
  cases u <;> simp_all [Value.cells, Value.oneCell']

section
variable {P : Program} {C : Ctx} {Q : Go.Exit → St → Prop} {s : St} {ops : Array Oper} {rest : List Oper} {t : Nat} {ty : TypeId} {pos : String} {af : Array Edge}

end
end Go.Vl

/- A part of a row whose slices are its own is lent to a function, which may write it. -/
namespace Go.Vl
set_option linter.unusedVariables false
set_option linter.unusedSimpArgs false
open Go.RowKit

section
variable {P : Program} {C : Ctx} {Q : Go.Exit → St → Prop} {s : St} {ops : Array Oper} {rest : List Oper} {t : Nat} {ty : TypeId} {pos : String} {af : Array Edge}

def SV.isScal : SV → Bool
  | .pv _ p => p.scal
  | _ => false

end
end Go.Vl
namespace Go.Vl
theorem TP.weak {w : World} {nl : Option Bool} {e : Nat} {xs : List PV} {v : Value} {S : Nat → Prop} (h : TP w (.sl nl e xs) v S) : TP w (.sl none e xs) v S := by
  cases h with
  | scal _ _ _ hsc => simp [PV.scal] at hsc
  | sl t e nl xs v vals Sf S hown h1 h2 hw hr hd hn hz hS => exact .sl t e none xs v vals Sf S hown (fun h => by cases h) (fun h => by cases h) hw hr hd hn hz hS

/-- Numbers that go up one by one. -/
def markL (k : Int) (n : Nat) : List Int := (List.range n).map (fun (j : Nat) => k + (j : Int))
end Go.Vl

/- 'copy' of a whole slice; a slice held against nil; ghost steps on slots. -/
namespace Go.Vl
set_option linter.unusedVariables false
set_option linter.unusedSimpArgs false
open Go.RowKit

section
variable {P : Program} {C : Ctx} {Q : Go.Exit → St → Prop} {s : St} {ops : Array Oper} {rest : List Oper} {t : Nat} {ty : TypeId} {pos : String} {af : Array Edge}

/-- A slice held against the literal nil. -/
theorem vo_eqnil {x : Operand} {T T2 el : TypeId} {f : Bool} {nl : Option Bool} {e : Nat} {xs : List PV} (ht : Nat.blt t s.n = true) (hx : getO s.env x = .pv f (.sl nl e xs)) (hT : P.underlying T = some (.slice el))
    (next : ∀ b : Bool, (b = true → xs = []) → (nl = some true → b = true) → (nl = some false → b = false) → VO P C ops rest Q (s.put t (.pv true (.bool b)))) :
    VO P C ops (⟨some t, .binOp .eql T x (.const (.slice none 0 0)) T2, ty, pos, af, none⟩ :: rest) Q s := by
  intro a w ⟨m, hs⟩
  have hv := hs.get x
  rw [hx] at hv
  have hv := hv.pv_inv
  have key : ∃ b : Bool, (b = true → xs = []) ∧ (nl = some true → b = true) ∧ (nl = some false → b = false) ∧ (execOp a.eval ⟨some t, .binOp .eql T x (.const (.slice none 0 0)) T2, ty, pos, af, none⟩).run P w = .ok (.value (.bool b)) w := by
    have hrun : ∀ (o : Option Addr) (l c : Nat), a.eval x = .slice o l c → (execOp a.eval ⟨some t, .binOp .eql T x (.const (.slice none 0 0)) T2, ty, pos, af, none⟩).run P w = .ok (.value (.bool o.isNone)) w := by
      intro o l c e
      have hg : (eqGuard .eql T x (.const (.slice none 0 0)) (.slice o l c) (.slice none 0 0)).run P w = .ok () w := rfl
      have heq : (Op.equal T (.slice o l c) (.slice none 0 0)).run P w = .ok o.isNone w := by
        show (Op.equalIn (9999 + 1) T (.slice o l c) (.slice none 0 0)).run P w = _
        unfold Op.equalIn
        cases o <;> simp [run_underlying hT]
      have hb : (binOp .eql T (.slice o l c) (.slice none 0 0)).run P w = .ok (.bool o.isNone) w := by
        show (do pure (Value.bool (← Op.equal T (.slice o l c) (.slice none 0 0))) : Sem Value).run P w = _
        simp [heq]
      have e3 : a.eval (.const (.slice none 0 0)) = .slice none 0 0 := rfl
      simp only [execOp, e, e3]
      simp [hg, hb]
    generalize hav : a.eval x = v at *
    cases hv with
    | nilsl nl e hn => exact ⟨true, fun _ => rfl, fun _ => rfl, fun h => (hn h).elim, hrun none 0 0 rfl⟩
    | sl nl e xs ad len cap fv h hsp hl hcap hg hw hc hr => exact ⟨false, (fun h => by cases h), fun e => (h e).elim, fun _ => rfl, hrun (some ad) len cap rfl⟩
  obtain ⟨b, h1, h2, h3, hrun⟩ := key
  refine wpList_plain rfl fun K hK => ?_
  unfold Oper.wp
  rw [hrun, Oper.upon_value]
  exact hK _ _ (next b h1 h2 h3 _ _ ⟨m, hs.put (blt_lt ht) (.pv _ _ _ (.bool b))⟩)

end
end Go.Vl

/- Classes above a class, and below it. -/
namespace Go.Vl
set_option linter.unusedVariables false
set_option linter.unusedSimpArgs false

/-- Steps lead from a class to another one. -/
inductive Abv (b : List (List Int)) : Nat → Nat → Prop
  | refl (c : Nat) : Abv b c c
  | step {c d x : Nat} (h : (d : Int) ∈ b.getD c []) (h2 : Abv b d x) : Abv b c x

theorem Abv.trans {b : List (List Int)} {c d x : Nat} (h : Abv b c d) (h2 : Abv b d x) : Abv b c x := by
  induction h with
  | refl c => exact h2
  | step h _ ih => exact .step h (ih h2)

def mkB (l : List Int) (m : List Bool) : List Bool := l.foldl (fun m x => m.set x.toNat true) m
def stB (b : List (List Int)) (i : Nat) (m : List Bool) : List Bool := if m.getD i false = true then mkB (b.getD i []) m else m
def goB (b : List (List Int)) : Nat → List Bool → List Bool
  | 0, m => m
  | i+1, m => goB b i (stB b (i+1) m)
/-- The same with the root, whose step is none. -/
def goC (b : List (List Int)) : Nat → List Bool → List Bool
  | 0, m => m
  | i+1, m => goC b i (stB b i m)
def abvB (b : List (List Int)) (c : Nat) : List Bool := goB b c ((List.replicate b.length false).set c true)
def idxT (m : List Bool) (k : Nat) : List Int := ((List.range k).filter (fun i => m.getD i false)).map (fun (i : Nat) => (i : Int))
def idxB (m : List Bool) : List Int := idxT m m.length
def abvL (b : List (List Int)) (c : Nat) : List Int := idxB (abvB b c)

theorem getD_set_b (m : List Bool) (i j : Nat) (v : Bool) : (m.set i v).getD j false = if i = j ∧ i < m.length then v else m.getD j false := by
  simp only [List.getD, List.getElem?_set]
  by_cases h : i = j
  · subst h
    by_cases h2 : i < m.length
    · simp [h2]
    · simp [h2, List.getElem?_eq_none (by omega : m.length ≤ i)]
  · simp [h]

theorem mkB_len (l : List Int) : ∀ m : List Bool, (mkB l m).length = m.length := by
  induction l with
  | nil => intro m; rfl
  | cons x l ih => intro m; exact (ih _).trans (by simp)

theorem mkB_get (l : List Int) : ∀ (m : List Bool) (j : Nat), (∀ x ∈ l, 0 ≤ x) → ((mkB l m).getD j false = true ↔ m.getD j false = true ∨ (j < m.length ∧ (j : Int) ∈ l)) := by
  induction l with
  | nil => intro m j _; simp [mkB]
  | cons x l ih =>
    intro m j h
    have := ih (m.set x.toNat true) j (fun y hy => h y (List.mem_cons_of_mem _ hy))
    show (mkB l (m.set x.toNat true)).getD j false = true ↔ _
    rw [this, getD_set_b, List.length_set, List.mem_cons]
    have hx := h x List.mem_cons_self
    constructor
    · rintro (h1 | ⟨h1, h2⟩)
      · split at h1
        · rename_i e; exact .inr ⟨by omega, .inl (by omega)⟩
        · exact .inl h1
      · exact .inr ⟨h1, .inr h2⟩
    · rintro (h1 | ⟨h1, h2 | h2⟩)
      · left; split <;> simp_all
      · left; rw [if_pos ⟨by omega, by omega⟩]
      · exact .inr ⟨h1, h2⟩

theorem stB_len (b : List (List Int)) (i : Nat) (m : List Bool) : (stB b i m).length = m.length := by
  unfold stB; split
  · exact mkB_len _ _
  · rfl

theorem goB_len (b : List (List Int)) : ∀ (i : Nat) (m : List Bool), (goB b i m).length = m.length
  | 0, m => rfl
  | i+1, m => (goB_len b i _).trans (stB_len b _ m)

theorem goC_goB {b : List (List Int)} (h0 : b.getD 0 [] = []) : ∀ (i : Nat) (m : List Bool), goC b (i+1) m = goB b i m
  | 0, m => by
    show stB b 0 m = m
    unfold stB; rw [h0]; split <;> rfl
  | i+1, m => goC_goB h0 i _

theorem goB_spec {b : List (List Int)} (hb : ∀ i x, x ∈ b.getD i [] → 0 ≤ x ∧ x < i) (hlt : ∀ i, b.length ≤ i → b.getD i [] = []) {c : Nat} : ∀ (i : Nat) (m : List Bool), m.length = b.length → i < b.length →
    (∀ x, m.getD x false = true → Abv b c x) → m.getD c false = true → (∀ j d : Nat, i < j → m.getD j false = true → (d : Int) ∈ b.getD j [] → m.getD d false = true) →
    ∀ r, r = goB b i m → (∀ x, r.getD x false = true → Abv b c x) ∧ r.getD c false = true ∧ ∀ j d : Nat, 0 < j → r.getD j false = true → (d : Int) ∈ b.getD j [] → r.getD d false = true
  | 0, m, hl, hi, h1, h2, h3, r, hr => by subst hr; exact ⟨h1, h2, h3⟩
  | i+1, m, hl, hi, h1, h2, h3, r, hr => by
    have hpos : ∀ x ∈ b.getD (i+1) [], 0 ≤ x := fun x hx => (hb _ x hx).1
    refine goB_spec hb hlt i (stB b (i+1) m) ((stB_len _ _ _).trans hl) (by omega) ?_ ?_ ?_ r hr
    · intro x hx
      unfold stB at hx
      split at hx
      · rename_i hm
        rcases (mkB_get _ _ _ hpos).1 hx with h | ⟨_, h⟩
        · exact h1 x h
        · exact (h1 _ hm).trans (.step h (.refl x))
      · exact h1 x hx
    · unfold stB
      split
      · exact (mkB_get _ _ _ hpos).2 (.inl h2)
      · exact h2
    · intro j d hj hm hd
      have hdj := hb j d hd
      have hjn : j < b.length := by
        rcases Nat.lt_or_ge j b.length with h | h
        · exact h
        · rw [hlt j h] at hd; cases hd
      have hm' : m.getD j false = true := by
        unfold stB at hm
        split at hm
        · rcases (mkB_get _ _ _ hpos).1 hm with h | ⟨_, h⟩
          · exact h
          · have := hb (i+1) j h; omega
        · exact hm
      unfold stB
      rcases Nat.lt_or_ge (i+1) j with h | h
      · have hmd := h3 j d h hm' hd
        split
        · exact (mkB_get _ _ _ hpos).2 (.inl hmd)
        · exact hmd
      · have e : j = i+1 := by omega
        subst e
        rw [if_pos hm']
        exact (mkB_get _ _ _ hpos).2 (.inr ⟨by omega, hd⟩)

theorem abvB_iff {b : List (List Int)} (hb : ∀ i x, x ∈ b.getD i [] → 0 ≤ x ∧ x < i) {c : Nat} (hc : c < b.length) (x : Nat) : (abvB b c).getD x false = true ↔ Abv b c x := by
  have hlt : ∀ i, b.length ≤ i → b.getD i [] = [] := fun i hi => by simp [List.getD, List.getElem?_eq_none hi]
  have hrep : ∀ x, ((List.replicate b.length false).set c true).getD x false = true ↔ x = c := by
    intro x
    rw [getD_set_b]
    by_cases h : c = x
    · subst h; simp [hc]
    · have : (List.replicate b.length false).getD x false = false := by
        simp only [List.getD, List.getElem?_replicate]
        split <;> rfl
      rw [if_neg (fun e => h e.1), this]; simp [Ne.symm h]
  obtain ⟨h1, h2, h3⟩ := goB_spec hb hlt (c := c) c ((List.replicate b.length false).set c true) (by simp) hc (fun x hx => by rw [(hrep x).1 hx]; exact .refl c) ((hrep c).2 rfl)
    (fun j d hj hm _ => by have := (hrep j).1 hm; omega) _ rfl
  refine ⟨h1 x, fun h => ?_⟩
  have key : ∀ {d x : Nat}, Abv b d x → (abvB b c).getD d false = true → (abvB b c).getD x false = true := by
    intro d x h
    induction h with
    | refl c => exact id
    | @step d e x hd _ ih =>
      intro hm
      refine ih (h3 d e ?_ hm hd)
      have := hb d e hd
      omega
  exact key h h2

theorem mem_idxT (m : List Bool) (k : Nat) (x : Int) : x ∈ idxT m k ↔ ∃ i : Nat, x = i ∧ i < k ∧ m.getD i false = true := by
  unfold idxT
  simp only [List.mem_map, List.mem_filter, List.mem_range]
  constructor
  · rintro ⟨i, ⟨h1, h2⟩, rfl⟩; exact ⟨i, rfl, h1, h2⟩
  · rintro ⟨i, rfl, h1, h2⟩; exact ⟨i, ⟨h1, h2⟩, rfl⟩

theorem idxT_succ (m : List Bool) (k : Nat) : idxT m (k+1) = if m.getD k false = true then idxT m k ++ [(k : Int)] else idxT m k := by
  unfold idxT
  rw [List.range_succ, List.filter_append, List.map_append]
  by_cases h : m.getD k false = true
  · rw [if_pos h]; simp only [List.filter_cons, h, List.filter_nil, if_true, List.map_cons, List.map_nil]
  · rw [if_neg h]; simp only [List.filter_cons, h, List.filter_nil, if_false, List.map_nil, List.append_nil, Bool.false_eq_true]

theorem idxT_len (m : List Bool) : ∀ k, (idxT m k).length ≤ k
  | 0 => by simp [idxT]
  | k+1 => by
    have := idxT_len m k
    rw [idxT_succ]
    split
    · simp; exact this
    · omega

theorem idxT_asc (m : List Bool) : ∀ k, (idxT m k).Pairwise (· < ·)
  | 0 => by simp [idxT]
  | k+1 => by
    have h := idxT_asc m k
    rw [idxT_succ]
    split
    · rw [List.pairwise_append]
      refine ⟨h, by simp, fun a ha c hc => ?_⟩
      obtain ⟨i, rfl, h1, _⟩ := (mem_idxT m k a).1 ha
      simp at hc
      omega
    · exact h

theorem getD_lt {m : List Bool} {i : Nat} (h : m.getD i false = true) : i < m.length := by
  rcases Nat.lt_or_ge i m.length with h1 | h1
  · exact h1
  · simp [List.getD, List.getElem?_eq_none h1] at h

theorem mem_abvL {b : List (List Int)} (hb : ∀ i x, x ∈ b.getD i [] → 0 ≤ x ∧ x < i) {c : Nat} (hc : c < b.length) (x : Int) : x ∈ abvL b c ↔ ∃ i : Nat, x = i ∧ Abv b c i := by
  unfold abvL idxB
  rw [mem_idxT]
  constructor
  · rintro ⟨i, h, _, h2⟩; exact ⟨i, h, (abvB_iff hb hc i).1 h2⟩
  · rintro ⟨i, h, h2⟩
    have := (abvB_iff hb hc i).2 h2
    exact ⟨i, h, getD_lt this, this⟩

theorem Abv.le {b : List (List Int)} (hb : ∀ i x, x ∈ b.getD i [] → 0 ≤ x ∧ x < i) {c x : Nat} (h : Abv b c x) : x ≤ c := by
  induction h with
  | refl c => exact Nat.le_refl _
  | @step c d x hd _ ih => have := hb c d hd; omega

theorem abvB_len (b : List (List Int)) (c : Nat) : (abvB b c).length = b.length := by
  unfold abvB; rw [goB_len]; simp
theorem abvL_len (b : List (List Int)) (c : Nat) : (abvL b c).length ≤ b.length := by
  unfold abvL idxB; have := idxT_len (abvB b c) (abvB b c).length; rwa [abvB_len] at this ⊢
theorem abvL_asc (b : List (List Int)) (c : Nat) : (abvL b c).Pairwise (· < ·) := idxT_asc _ _

/-- The marks of all classes below a class. -/
def belB (b : List (List Int)) (c : Nat) : List Bool := (List.range b.length).map (fun i => decide ((c : Int) ∈ abvL b i))
def belL (b : List (List Int)) (c : Nat) : List Int := idxB (belB b c)
end Go.Vl

/- Lists that keep others; merges of lists. -/
namespace Go.Vl
set_option linter.unusedVariables false
set_option linter.unusedSimpArgs false

/-- How far the second list is met along the first one, from a place on. -/
def kpN (short : List Int) : List Int → Nat → Nat
  | [], a => a
  | x :: l, a => kpN short l (if a < short.length ∧ short.getD a 0 = x then a + 1 else a)

/-- What KeepsOrder says. -/
def KO (long short : List Int) : Prop := OKL' long ∧ OKL' short ∧ short.Sublist long
  where OKL' (l : List Int) : Prop := (l.length : Int) ≤ 12 ∧ l.Nodup
end Go.Vl

/- Merges of lists. -/
namespace Go.Vl
set_option linter.unusedVariables false
set_option linter.unusedSimpArgs false

def fM (n : Int) : List Int → Int → Int
  | [], _ => -1
  | x :: xs, i => if x = n then i else fM n xs (i+1)

/-- Behind the first place. -/
def bhd (x : Int) (l : List Int) : Prop := 0 < fM x l 0
instance {x : Int} {l : List Int} : Decidable (bhd x l) := by unfold bhd; infer_instance
def anyB (ls : List (List Int)) (x : Int) : Prop := ∃ l ∈ ls, bhd x l
instance {ls : List (List Int)} {x : Int} : Decidable (anyB ls x) := by unfold anyB; infer_instance

def freeH (all : List (List Int)) (l : List Int) : Option Int := if 0 < l.length ∧ ¬ anyB all (l.getD 0 0) then some (l.getD 0 0) else none
def fhF (all : List (List Int)) : List (List Int) → Option Int
  | [] => none
  | l :: r => match freeH all l with
    | some x => some x
    | none => fhF all r
def fhM (ls : List (List Int)) : Option Int := fhF ls ls
/-- A list without a number at its head. -/
def tk (x : Int) (l : List Int) : List Int := if 0 < l.length ∧ l.getD 0 0 = x then l.drop 1 else l
def tot (ls : List (List Int)) : Nat := (ls.map List.length).sum
def mergeF : Nat → List (List Int) → List Int × List (List Int)
  | 0, ls => ([], ls)
  | n+1, ls => match fhM ls with
    | none => ([], ls)
    | some x => (x :: (mergeF n (ls.map (tk x))).1, (mergeF n (ls.map (tk x))).2)
def mergeM (ls : List (List Int)) : List Int × List (List Int) := mergeF (tot ls) ls
/-- Each once, where it stands first. -/
def onceF : List Int → List Int → List Int
  | acc, [] => acc
  | acc, x :: l => onceF (if x ∈ acc then acc else acc ++ [x]) l
theorem onceF_drop (acc l : List Int) (k : Nat) (h : k < l.length) : onceF acc (l.drop k) = onceF (if l.getD k 0 ∈ acc then acc else acc ++ [l.getD k 0]) (l.drop (k+1)) := by
  rw [List.drop_eq_getElem_cons h]
  have : l.getD k 0 = l[k] := by simp [List.getD, List.getElem?_eq_getElem h]
  rw [this]; rfl
/-- The first numbers of lists. -/
def hd1 (l : List Int) : List Int := l.take 1
def hds (ls : List (List Int)) : List Int := ls.flatMap hd1
end Go.Vl

/- A call that makes rows, in a statement whose order of evaluation is open. -/
namespace Go.Vl
set_option linter.unusedVariables false
set_option linter.unusedSimpArgs false
open Go.RowKit

section
variable {P : Program} {C : Ctx} {ops : Array Oper} {K : St → Prop} {s : St} {n : Nat} {listed : Array Bool}

end
end Go.Vl

/- More ghost steps: a row forgets that what it holds is new. -/
namespace Go.Vl
set_option linter.unusedVariables false
set_option linter.unusedSimpArgs false
open Go.RowKit

section
variable {P : Program} {C : Ctx} {Q : Go.Exit → St → Prop} {s : St}
end
end Go.Vl

/- Nil slices of the call's own that are known to be nil; a slice held to differ from nil. -/
namespace Go.Vl
set_option linter.unusedVariables false
set_option linter.unusedSimpArgs false
open Go.RowKit

section
variable {P : Program} {C : Ctx} {Q : Go.Exit → St → Prop} {s : St} {ops : Array Oper} {rest : List Oper} {t : Nat} {ty : TypeId} {pos : String} {af : Array Edge}

end
end Go.Vl

/- A slice is taken out of a row whose slices are its own: it becomes a row. -/
namespace Go.Vl
set_option linter.unusedVariables false
set_option linter.unusedSimpArgs false
open Go.RowKit

section
variable {P : Program} {C : Ctx} {Q : Go.Exit → St → Prop} {s : St} {ops : Array Oper} {rest : List Oper} {t : Nat} {ty : TypeId} {pos : String} {af : Array Edge}

end
end Go.Vl

/- A row of the call's own held to differ from nil. -/
namespace Go.Vl
set_option linter.unusedVariables false
set_option linter.unusedSimpArgs false
open Go.RowKit

section
variable {P : Program} {C : Ctx} {Q : Go.Exit → St → Prop} {s : St} {ops : Array Oper} {rest : List Oper} {t : Nat} {ty : TypeId} {pos : String} {af : Array Edge}

end
end Go.Vl

/- A slice of a row whose slices are its own held against nil. -/
namespace Go.Vl
set_option linter.unusedVariables false
set_option linter.unusedSimpArgs false
open Go.RowKit

section
variable {P : Program} {C : Ctx} {Q : Go.Exit → St → Prop} {s : St} {ops : Array Oper} {rest : List Oper} {t : Nat} {ty : TypeId} {pos : String} {af : Array Edge}

end
end Go.Vl

/- Ghost steps in a statement whose order is open. -/
namespace Go.Vl
set_option linter.unusedVariables false
set_option linter.unusedSimpArgs false
open Go.RowKit
theorem vd_st {P : Program} {C : Ctx} {ops : Array Oper} {K : St → Prop} {s s' : St} {n : Nat} {listed : Array Bool} (h : s = s') (next : VD P C ops n listed K s') : VD P C ops n listed K s := by rw [h]; exact next
end Go.Vl

/- Statements whose order of evaluation is open, with operations that write: these come when nothing else can. -/
namespace Go.Vl
set_option linter.unusedVariables false
set_option linter.unusedSimpArgs false
open Go.RowKit

section
variable {P : Program} {ops : Array Oper} {Q : Go.Exit → Act → World → Prop}

/-- Whatever order is picked; each step leaves all that was there as it was, or is one of those that come late. -/
def anyL (late : List Nat) (P : Program) (ops : Array Oper) (Q : Go.Exit → Act → World → Prop) : Nat → Array Bool → Act → World → Prop
  | 0, listed, a, w => Region.ready .any ops listed = [] ∧ Q .normal a w
  | n + 1, listed, a, w => (Region.ready .any ops listed = [] → Q .normal a w) ∧
      ∀ i ∈ Region.ready .any ops listed, wpOp P ops Q i (fun a' w' => (ExtW w w' ∨ late.contains i = true) ∧ anyL late P ops Q n (listed.setIfInBounds i true) a' w') a w

/-- Without i no late operation can come: M has all that can. -/
def closedB (ops : Array Oper) (late M : List Nat) (i : Nat) : Bool :=
  (List.range ops.size).all fun j => j == i || match ops[j]? with
    | some oj => (oj.after.any fun e => Region.binds .any e && !M.contains e.on) || (M.contains j && !late.contains j)
    | none => true
def subB (listed : Array Bool) (M : List Nat) : Bool := (List.range listed.size).all fun k => !listed.getD k false || M.contains k

end

def VL (late : List Nat) (P : Program) (C : Ctx) (ops : Array Oper) (n : Nat) (listed : Array Bool) (K : St → Prop) (s : St) : Prop := ∀ m a w, SimM C s m a w → anyL late P ops (post0 C K) n listed a w

section
variable {late : List Nat} {P : Program} {C : Ctx} {ops : Array Oper} {K : St → Prop} {s : St} {n : Nat} {listed : Array Bool}

end
end Go.Vl

/- '==' on structs of two numbers. -/
namespace Go.Vl
set_option linter.unusedVariables false
set_option linter.unusedSimpArgs false
open Go.RowKit

/-- Structs of two numbers are compared number by number. -/
def EqI2 (P : Program) (T : TypeId) : Prop :=
  (∀ (x y x' y' : Int) (w : World), (Op.equalIn 10000 T (.agg #[.int .i64 x, .int .i64 y]) (.agg #[.int .i64 x', .int .i64 y'])).run P w = .ok (x == x' && y == y') w) ∧ P.eqGuardType P.depth T = false

theorem RP.agg2 {w : World} {G : Nat → Prop} {a b : Int} {v : Value} (h : RP w G (.agg [.int .i64 a, .int .i64 b]) v) : v = .agg #[.int .i64 a, .int .i64 b] := by
  cases h with
  | agg _ vs hl h1 h =>
    simp only [List.length_cons, List.length_nil] at hl
    have e0 : vs[0]? = some vs[0] := Array.getElem?_eq_getElem (by omega)
    have e1 : vs[1]? = some vs[1] := Array.getElem?_eq_getElem (by omega)
    have h0 := h 0 _ _ rfl e0
    have h2 := h 1 _ _ rfl e1
    have k0 : vs[0] = .int .i64 a := by generalize vs[0] = u at h0; cases h0; rfl
    have k1 : vs[1] = .int .i64 b := by generalize vs[1] = u at h2; cases h2; rfl
    congr 1
    apply Array.ext
    · simp; omega
    · intro i hi hi2
      match i, hi with
      | 0, _ => exact k0
      | 1, _ => exact k1
      | i+2, hi => omega

section
variable {P : Program} {C : Ctx} {Q : Go.Exit → St → Prop} {s : St} {ops : Array Oper} {rest : List Oper} {t : Nat} {ty : TypeId} {pos : String} {af : Array Edge}

end
end Go.Vl

/- Operations that make new memory, in a statement whose order of evaluation is open. -/
namespace Go.Vl
set_option linter.unusedVariables false
set_option linter.unusedSimpArgs false
open Go.RowKit

/-- The operation hands back a value, and all that was there is there as it was. -/
def Xt (P : Program) (C : Ctx) (s : St) (o : Oper) (s1 : St) (sv : SV) : Prop :=
  ∀ m a w, SimM C s m a w → ∃ v w' m', (execOp a.eval o).run P w = .ok (.value v) w' ∧ SimM C s1 m' a w' ∧ RS w' (Gd C s1.rows m' w') m' s1.rows.length sv v ∧ ExtW w w'

section
variable {late : List Nat} {P : Program} {C : Ctx} {ops : Array Oper} {K : St → Prop} {s s1 : St} {n : Nat} {listed : Array Bool}

end
section
variable {P : Program} {C : Ctx} {s : St} {t : Nat} {ty : TypeId} {pos : String} {af : Array Edge}

end
end Go.Vl

/- Side conditions and plain states, by a tactic that the rule itself carries. -/
namespace Go.Vl
set_option linter.unusedVariables false
set_option linter.unusedSimpArgs false
open Go.RowKit

/-- A side condition. -/
theorem sd {p : Prop} (h : p := by first | omega | (simp only [List.length_map] <;> omega) | (simp only [List.length_map, List.length_set, List.length_append, List.length_cons, List.length_nil, List.length_replicate, List.length_take, List.length_drop] <;> omega) | (simp <;> omega) | (constructor <;> (first | omega | (simp <;> omega))) | (refine ⟨?_, ?_, ?_, ?_⟩ <;> omega) | exact ⟨xorI_nonneg _ _, by omega⟩ | decide) : p := h

section
variable {late : List Nat} {P : Program} {C : Ctx} {Q : Go.Exit → St → Prop} {K : St → Prop} {s s' : St} {ops : Array Oper} {n : Nat} {listed : Array Bool}
theorem vo_stN {l : List Oper} (next : VO P C ops l Q s') (h : s = s' := by (try simp only [St.put, exposeE, killE, SV.expose, SV.kill, Row.expose, Row.kill, rowsAfter_nil, rowsAfter_one, packS, SV.shift, placeOf, enumE, List.zip_cons_cons, List.zip_nil_right, List.map_cons, List.map_nil, List.set_cons_zero, List.set_cons_succ, List.length_cons, List.length_nil, List.cons_append, List.nil_append, List.drop_succ_cons, List.drop_zero, List.drop_nil, List.take_succ_cons, List.take_zero, List.take_nil, List.getElem?_cons_zero, List.getElem?_cons_succ, List.getElem?_nil, Option.getD_some, Option.getD_none, Option.map_some, Option.map_none, Nat.reduceAdd, Nat.reduceSub, Nat.reduceEqDiff, Nat.zero_add, Bool.true_or, PV.scal, Bool.or_false, Bool.or_true, Bool.false_or, Bool.and_true, Bool.and_false, Bool.true_and, reduceIte, reduceCtorEq]); exact eq_refl _) : VO P C ops l Q s := vo_st h next
theorem vc_stN {code : Code} (next : VC P C code Q s') (h : s = s' := by (try simp only [St.put, exposeE, killE, SV.expose, SV.kill, Row.expose, Row.kill, rowsAfter_nil, rowsAfter_one, packS, SV.shift, placeOf, enumE, List.zip_cons_cons, List.zip_nil_right, List.map_cons, List.map_nil, List.set_cons_zero, List.set_cons_succ, List.length_cons, List.length_nil, List.cons_append, List.nil_append, List.drop_succ_cons, List.drop_zero, List.drop_nil, List.take_succ_cons, List.take_zero, List.take_nil, List.getElem?_cons_zero, List.getElem?_cons_succ, List.getElem?_nil, Option.getD_some, Option.getD_none, Option.map_some, Option.map_none, Nat.reduceAdd, Nat.reduceSub, Nat.reduceEqDiff, Nat.zero_add, Bool.true_or, PV.scal, Bool.or_false, Bool.or_true, Bool.false_or, Bool.and_true, Bool.and_false, Bool.true_and, reduceIte, reduceCtorEq]); exact eq_refl _) : VC P C code Q s := vc_st h next
end
end Go.Vl

/- A call whose function's code is gone through in its place: the caller's slots wait in a row of their own. -/
namespace Go.Vl
set_option linter.unusedVariables false
set_option linter.unusedSimpArgs false
open Go.RowKit

/-- What a result holds at a function's end. -/
def resG (s : St) : Nat × Option (Nat × Nat) → SV
  | (t, none) => look s.env t
  | (a, some _) => match look s.env a with
    | .ptr id 0 0 0 => match s.rows[id]? with
      | some (.var _ cs) => match collectC cs with
        | some (f, ps) => .pv f (.agg ps)
        | none => .ag cs
      | _ => .any
    | _ => .any

/-- Is the result there? -/
def resGOK (s : St) : Nat × Option (Nat × Nat) → Bool
  | (_, none) => true
  | (a, some (_, n)) => match look s.env a with
    | .ptr id 0 0 0 => match s.rows[id]? with
      | some (.var _ cs) => Nat.beq cs.length n
      | _ => false
    | _ => false

def inQ (us : List Value) (i : Nat) (L : List Nat) (rs : List (Nat × Option (Nat × Nat))) (n t : Nat) (K : St → Prop) (e : Go.Exit) (s' : St) : Prop :=
  (e = .normal ∨ e = .ret) ∧ ∃ cs', s'.rows[i]? = some (.gh us cs') ∧ rs.all (resGOK s') = true ∧ K ⟨n, (t, packS (rs.map (resG s'))) :: L.zip cs', s'.rows.set i .dead⟩

theorem inQ_ret {us : List Value} {i : Nat} {L : List Nat} {rs : List (Nat × Option (Nat × Nat))} {n t : Nat} {K : St → Prop} {s' : St} {cs' : List SV} (h1 : s'.rows[i]? = some (.gh us cs')) (h2 : rs.all (resGOK s') = true)
    (h : K ⟨n, (t, packS (rs.map (resG s'))) :: L.zip cs', s'.rows.set i .dead⟩) : inQ us i L rs n t K .ret s' := ⟨.inr rfl, cs', h1, h2, h⟩
theorem look_zip2 : ∀ (L : List Nat) (cs : List SV) (u : Nat), look (L.zip cs) u = .any ∨ ∃ (j : Nat) (c : SV), L[j]? = some u ∧ cs[j]? = some c ∧ look (L.zip cs) u = c
  | [], cs, u => .inl (by simp [look])
  | _ :: _, [], u => .inl (by simp [look])
  | l :: L, c :: cs, u => by
    simp only [List.zip_cons_cons, look_cons]
    by_cases h : u = l
    · subst h
      exact .inr ⟨0, c, rfl, rfl, by simp⟩
    · rw [if_neg h]
      rcases look_zip2 L cs u with h1 | ⟨j, c', h1, h2, h3⟩
      · exact .inl h1
      · exact .inr ⟨j + 1, c', by simpa using h1, by simpa using h2, h3⟩

section
variable {P : Program} {C : Ctx} {Q : Go.Exit → St → Prop} {s : St}

/-- A cell of a row's end that is forgotten. -/
theorem SimM.toDead {m : Nat → MV} {a : Act} {w : World} (h : SimM C s m a w) (id : Nat) :
    SimM C { s with rows := s.rows.set id .dead } m a w := by
  have hlive : ∀ j, liveAt (s.rows.set id .dead) j → liveAt s.rows j := by
    intro j ⟨q, hq, hv⟩
    rw [List.getElem?_set] at hq
    split at hq
    · split at hq
      · cases hq; simp [Row.live] at hv
      · cases hq
    · exact ⟨q, hq, hv⟩
  have hG : ∀ f b, Gd C s.rows m w f b → Gd C (s.rows.set id .dead) m w f b ∧ w.heap[b]? = w.heap[b]? :=
    Gd.step (fun _ => False) (Nat.le_refl _) (fun _ _ _ => rfl) (fun _ hf => hf.elim) (fun b _ ⟨j, hl, hbk⟩ => ⟨j, hlive j hl, hbk⟩)
  exact {
    defs := h.defs
    size := h.size
    os := h.os
    tape := h.tape
    output := h.output
    hsz := h.hsz
    old := h.old
    bor := h.bor
    nbl := by simpa using h.nbl
    newb := fun j b hj hl hbk => h.newb j b hj (hlive j hl) hbk
    dist := fun i j b hi hj hbi hbj => h.dist i j b (hlive i hi) (hlive j hj) hbi hbj
    rows := fun j q hq => by
      change (s.rows.set id .dead)[j]? = some q at hq
      rw [List.getElem?_set] at hq
      split at hq
      · split at hq
        · cases hq; exact .dead _
        · cases hq
      · have := RowOK.mono (N' := (s.rows.set id .dead).length) (m' := m) hG (by simp) (fun _ _ => rfl) (h.rows j q hq) (fun _ _ _ => rfl)
        exact this
    env := fun t => (h.env t).mono (m' := m) hG (by simp) (fun _ _ => rfl) }

/-- A row that holds the values of slots. -/
theorem SimM.addGh {m : Nat → MV} {a : Act} {w : World} (h : SimM C s m a w) (us : List Value) (cs : List SV) (hl : us.length = cs.length)
    (hc : ∀ (j : Nat) (c : SV) (u : Value), cs[j]? = some c → us[j]? = some u → RS w (Gd C s.rows m w) m s.rows.length c u) :
    ∃ m', SimM C { s with rows := s.rows ++ [.gh us cs] } m' a w ∧ (∀ fr b, Gd C s.rows m w fr b → Gd C (s.rows ++ [.gh us cs]) m' w fr b ∧ w.heap[b]? = w.heap[b]?) ∧ ∀ id, id < s.rows.length → m' id = m id := by
  have hg : w.grownBy w none := ⟨rfl, rfl, rfl, Nat.le_refl _, fun _ _ _ => rfl⟩
  obtain ⟨h1, h2⟩ := h.addRow hg (.gh us cs) ⟨undef, fun _ => False⟩ (fun b hb => hb.elim) (fun hG => .gh _ us cs hl (fun j c u hcj hu => (hc j c u hcj hu).mono (N' := s.rows.length + 1) hG (by omega) (fun i hi => updM_ne _ _ (by omega))))
  exact ⟨_, h1, h2, fun i hi => updM_ne _ _ (by omega)⟩

theorem run_resG1 {m : Nat → MV} {a : Act} {w : World} (h : SimM C s m a w) {r : Nat × Option (Nat × Nat)} (hT : resT P r) (hok : resGOK s r = true) :
    ∃ v, (resM a.tmps (resVar r)).run P w = .ok v w ∧ RS w (Gd C s.rows m w) m s.rows.length (resG s r) v := by
  obtain ⟨t, _ | ⟨T, n⟩⟩ := r
  · exact ⟨_, rfl, h.env t⟩
  · obtain ⟨D, inf, hu, hD, hinf, hsz⟩ := hT
    simp only [resGOK] at hok
    split at hok
    · rename_i id hid
      split at hok
      · rename_i R cs hrow
        have hl := Nat.eq_of_beq_eq_true hok
        have hg : getO s.env (.tmp t) = .ptr id 0 0 0 := hid
        obtain ⟨b, cur, hv, _, hbk, hcl, hr, h1⟩ := h.var hg hrow
        have hv2 : a.tmps.getD t undef = .pointer (some ⟨b, 0, none⟩) := hv
        refine ⟨.agg cur, ?_, ?_⟩
        · have e := run_loadAt_mid (P := P) w b 0 T cur.toList D (fun j v hj => by
            rw [cell_of_row w b _ cur R (0, 0) hbk]; simpa using hj) hu hD (by rw [hinf]; simp [hsz, hcl, hl])
          simp only [resVar, resM, hv2]
          simpa [Instr.loadAt, Instr.sureAddr, asAddr] using e
        · simp only [resG, hid, hrow]
          split
          · rename_i f ps hcc
            obtain ⟨c1, c2⟩ := collectC_get hcc
            refine .pv _ _ _ (.agg ps cur (by rw [hcl, c1]) (fun j p hp => ?_) (fun j p u hp hu => ?_))
            · obtain ⟨g, h3, _⟩ := c2 j p hp
              have hlt : j < cur.size := by rw [hcl]; exact (List.getElem?_eq_some_iff.1 h3).1
              have hu := Array.getElem?_eq_getElem hlt
              exact (hr _ _ _ h3 hu).pv_inv.notAgg (h1 _ _ hu)
            · obtain ⟨g, h3, h4⟩ := c2 j p hp
              exact RP.flag (G := Gd C s.rows m w) (fun b hb => hb.weak) (hr _ _ _ h3 hu).pv_inv h4
          · exact .ag cs cur hcl hr h1
      · cases hok
    · cases hok

theorem run_resGA {m : Nat → MV} {a : Act} {w : World} (h : SimM C s m a w) {fn : Func} {rs : List (Nat × Option (Nat × Nat))} (hr : fn.results = (rs.map resVar).toArray) (hl : rs.length ≤ 5)
    (hT : ∀ r ∈ rs, resT P r) (hok : rs.all (resGOK s) = true) :
    ∃ us : Array Value, (results fn a.tmps).run P w = .ok (pack us) w ∧ us.size = rs.length ∧ ∀ (j : Nat) (r : Nat × Option (Nat × Nat)), rs[j]? = some r → RS w (Gd C s.rows m w) m s.rows.length (resG s r) (us.getD j undef) := by
  rw [results_eq, hr]
  rw [List.all_eq_true] at hok
  match rs, hl with
  | [], _ => exact ⟨#[], by simp [pack], rfl, fun j r hr => by simp at hr⟩
  | [r1], _ =>
    obtain ⟨v1, h1, k1⟩ := run_resG1 (P := P) h (hT r1 (by simp)) (hok r1 (by simp))
    refine ⟨#[v1], by simp [h1, pack], rfl, fun j r hr => ?_⟩
    match j, hr with
    | 0, hr => cases hr; exact k1
  | [r1, r2], _ =>
    obtain ⟨v1, h1, k1⟩ := run_resG1 (P := P) h (hT r1 (by simp)) (hok r1 (by simp))
    obtain ⟨v2, h2, k2⟩ := run_resG1 (P := P) h (hT r2 (by simp)) (hok r2 (by simp))
    refine ⟨#[v1, v2], by simp [h1, h2, pack], rfl, fun j r hr => ?_⟩
    match j, hr with
    | 0, hr => cases hr; exact k1
    | 1, hr => cases hr; exact k2
  | [r1, r2, r3], _ =>
    obtain ⟨v1, h1, k1⟩ := run_resG1 (P := P) h (hT r1 (by simp)) (hok r1 (by simp))
    obtain ⟨v2, h2, k2⟩ := run_resG1 (P := P) h (hT r2 (by simp)) (hok r2 (by simp))
    obtain ⟨v3, h3, k3⟩ := run_resG1 (P := P) h (hT r3 (by simp)) (hok r3 (by simp))
    refine ⟨#[v1, v2, v3], by simp [h1, h2, h3, pack], rfl, fun j r hr => ?_⟩
    match j, hr with
    | 0, hr => cases hr; exact k1
    | 1, hr => cases hr; exact k2
    | 2, hr => cases hr; exact k3
  | [r1, r2, r3, r4], _ =>
    obtain ⟨v1, h1, k1⟩ := run_resG1 (P := P) h (hT r1 (by simp)) (hok r1 (by simp))
    obtain ⟨v2, h2, k2⟩ := run_resG1 (P := P) h (hT r2 (by simp)) (hok r2 (by simp))
    obtain ⟨v3, h3, k3⟩ := run_resG1 (P := P) h (hT r3 (by simp)) (hok r3 (by simp))
    obtain ⟨v4, h4, k4⟩ := run_resG1 (P := P) h (hT r4 (by simp)) (hok r4 (by simp))
    refine ⟨#[v1, v2, v3, v4], by simp [h1, h2, h3, h4, pack], rfl, fun j r hr => ?_⟩
    match j, hr with
    | 0, hr => cases hr; exact k1
    | 1, hr => cases hr; exact k2
    | 2, hr => cases hr; exact k3
    | 3, hr => cases hr; exact k4
  | [r1, r2, r3, r4, r5], _ =>
    obtain ⟨v1, h1, k1⟩ := run_resG1 (P := P) h (hT r1 (by simp)) (hok r1 (by simp))
    obtain ⟨v2, h2, k2⟩ := run_resG1 (P := P) h (hT r2 (by simp)) (hok r2 (by simp))
    obtain ⟨v3, h3, k3⟩ := run_resG1 (P := P) h (hT r3 (by simp)) (hok r3 (by simp))
    obtain ⟨v4, h4, k4⟩ := run_resG1 (P := P) h (hT r4 (by simp)) (hok r4 (by simp))
    obtain ⟨v5, h5, k5⟩ := run_resG1 (P := P) h (hT r5 (by simp)) (hok r5 (by simp))
    refine ⟨#[v1, v2, v3, v4, v5], by simp [h1, h2, h3, h4, h5, pack], rfl, fun j r hr => ?_⟩
    match j, hr with
    | 0, hr => cases hr; exact k1
    | 1, hr => cases hr; exact k2
    | 2, hr => cases hr; exact k3
    | 3, hr => cases hr; exact k4
    | 4, hr => cases hr; exact k5

/-- The function's code in the call's place: the operation. -/
theorem ow_inline {t : Nat} {ty : TypeId} {pos : String} {af : Array Edge} {gd : Option (Nat × Bool)} {f : FuncId} {fn : Func} {xs : Array Operand} {Ts : Array TypeId} {args : List SV} {c : Code} {m : Nat → MV} {a : Act} {w : World}
    {K : Act → World → Prop} {Q' : Go.Exit → Act → World → Prop} (L : List Nat) (rs : List (Nat × Option (Nat × Nat))) (Kc : St → Prop) (hs : SimM C s m a w)
    (hf : P.funcs[f]? = some fn) (hnm : (fn.name == "runtime.NumGoroutine") = false) (hb : fn.body = some c) (ht : Nat.blt t s.n = true)
    (hr : fn.results = (rs.map resVar).toArray) (hl : rs.length ≤ 5) (hT : ∀ r ∈ rs, resT P r)
    (hargs : xs.toList.map (getO s.env) = args) (hn : Nat.ble args.length fn.ntmps = true)
    (h : ∀ us : List Value, VC P C c (inQ us s.rows.length L rs s.n t Kc) ⟨fn.ntmps, enumE 0 args, s.rows ++ [.gh us (L.map (look s.env))]⟩)
    (hK : ∀ s' a' w', Kc s' → Sim C s' a' w' → K a' w') :
    Oper.wp P ⟨some t, .call ⟨.value (.func f), xs, Ts⟩, ty, pos, af, gd⟩ a w K Q' := by
  unfold Oper.wp
  have hrc : (execOp a.eval ⟨some t, .call ⟨.value (.func f), xs, Ts⟩, ty, pos, af, gd⟩).run P w = .ok (.enter f (xs.map a.eval)) w := run_call (t := t) (ty := ty) (pos := pos) (af := af) hf hnm (by simp [hb]) (some t)
  rw [hrc, Oper.upon_enter]
  have hlen : args.length = xs.size := by rw [← hargs]; simp
  have hn := Nat.le_of_ble_eq_true hn
  let us : List Value := L.map fun t => a.tmps.getD t undef
  obtain ⟨m1, hs1, hG1, hm1⟩ := hs.addGh us (L.map (look s.env)) (by simp [us]) (fun j c u hc hu => by
    simp only [us, List.getElem?_map, Option.map_eq_some_iff] at hc hu
    obtain ⟨t1, ht1, rfl⟩ := hc
    obtain ⟨t2, ht2, rfl⟩ := hu
    rw [ht1] at ht2
    cases ht2
    exact hs.env t1)
  let vals := xs.map a.eval
  have hs2 : SimM C ⟨fn.ntmps, enumE 0 args, s.rows ++ [.gh us (L.map (look s.env))]⟩ m1 { tmps := vals ++ Array.replicate (fn.ntmps - vals.size) undef, defers := [] } w := by
    refine { hs1 with size := ?_, env := fun u => ?_, defs := rfl }
    · simp [vals]; omega
    · show RS _ _ _ _ (look (enumE 0 args) u) _
      rw [look_enumE]
      simp only [Nat.zero_le, if_true, Nat.sub_zero]
      rcases Nat.lt_or_ge u xs.size with hu | hu
      · have hx : args[u]? = some (getO s.env xs[u]) := by rw [← hargs]; simp [hu]
        rw [hx]
        simp only [Option.getD_some]
        have e2 : (vals ++ Array.replicate (fn.ntmps - vals.size) undef).getD u undef = a.eval xs[u] := by
          simp [Array.getD, vals, hu]
          intro hh; omega
        show RS w _ _ _ _ ((vals ++ Array.replicate (fn.ntmps - vals.size) undef).getD u undef)
        rw [e2]
        exact (hs.get xs[u]).mono hG1 (by simp) hm1
      · rw [List.getElem?_eq_none (by omega)]
        exact .any _
  have hcall : Calls P f vals w (fun e w' => ∃ (us' : Array Value) (s' : St) (a' : Act) (m' : Nat → MV) (cs' : List SV), e = .returned (pack us') ∧ us'.size = rs.length ∧ SimM C s' m' a' w' ∧ s'.rows[s.rows.length]? = some (.gh us cs') ∧
      (∀ (j : Nat) (r : Nat × Option (Nat × Nat)), rs[j]? = some r → RS w' (Gd C s'.rows m' w') m' s'.rows.length (resG s' r) (us'.getD j undef)) ∧
      Kc ⟨s.n, (t, packS (rs.map (resG s'))) :: L.zip cs', s'.rows.set s.rows.length .dead⟩) := by
    refine calls_of_wp hf hb ?_
    refine wp_mono (h us _ _ ⟨m1, hs2⟩) ?_
    rintro e a' w' ⟨s', ⟨m', hs'⟩, he, cs', hgh, hok, hkc⟩
    obtain ⟨us', hrun, hul, hus⟩ := run_resGA (P := P) hs' hr hl hT hok
    have key : ∃ v, (results fn a'.tmps).run P w' = .ok v w' ∧ (∃ (us' : Array Value) (s' : St) (a' : Act) (m' : Nat → MV) (cs' : List SV), Ending.returned v = .returned (pack us') ∧ us'.size = rs.length ∧ SimM C s' m' a' w' ∧ s'.rows[s.rows.length]? = some (.gh us cs') ∧
      (∀ (j : Nat) (r : Nat × Option (Nat × Nat)), rs[j]? = some r → RS w' (Gd C s'.rows m' w') m' s'.rows.length (resG s' r) (us'.getD j undef)) ∧
      Kc ⟨s.n, (t, packS (rs.map (resG s'))) :: L.zip cs', s'.rows.set s.rows.length .dead⟩) :=
      ⟨_, hrun, us', s', a', m', cs', rfl, hul, hs', hgh, hus, hkc⟩
    obtain ⟨v, hv1, hv2⟩ := key
    rcases he with rfl | rfl
    · exact ⟨hs'.defs, v, hv1, hv2⟩
    · exact ⟨hs'.defs, v, hv1, hv2⟩
  refine hcall.mono ?_
  rintro e w' ⟨us', s', a', m', cs', rfl, hul, hs', hgh, hus, hkc⟩
  refine hK _ _ _ hkc ⟨m', ?_⟩
  have hlt : s.rows.length < s'.rows.length := (List.getElem?_eq_some_iff.1 hgh).1
  have hrow := hs'.rows _ _ hgh
  have hd := hs'.toDead s.rows.length
  have hGd : ∀ f b, Gd C s'.rows m' w' f b → Gd C (s'.rows.set s.rows.length .dead) m' w' f b ∧ w'.heap[b]? = w'.heap[b]? :=
    Gd.step (fun _ => False) (Nat.le_refl _) (fun _ _ _ => rfl) (fun _ hf => hf.elim) (fun b _ ⟨j, ⟨q, hq, hv⟩, hbk⟩ => ⟨j, by
      rw [List.getElem?_set] at hq
      split at hq
      · cases hq; simp [Row.live] at hv
      · exact ⟨q, hq, hv⟩, hbk⟩)
  have hs3 : SimM C ⟨s.n, L.zip cs', s'.rows.set s.rows.length .dead⟩ m' a w' := {
    defs := hs.defs
    size := hs.size
    os := hd.os
    tape := hd.tape
    output := hd.output
    hsz := hd.hsz
    old := hd.old
    bor := hd.bor
    nbl := hd.nbl
    newb := hd.newb
    dist := hd.dist
    rows := hd.rows
    env := fun u => by
      show RS w' _ _ _ (look (L.zip cs') u) _
      rcases look_zip2 L cs' u with h1 | ⟨j, c', h1, h2, h3⟩
      · rw [h1]; exact .any _
      · rw [h3]
        generalize hmv : m' s.rows.length = mv at hrow
        cases hrow with
        | gh _ _ _ hl9 h9 =>
          have hu : us[j]? = some (a.tmps.getD u undef) := by simp [us, h1]
          exact (h9 j c' _ h2 hu).mono hGd (by simp) (fun _ _ => rfl) }
  refine hs3.put (blt_lt ht) ?_
  have hres : ∀ (j : Nat) (r : Nat × Option (Nat × Nat)), rs[j]? = some r → RS w' (Gd C (s'.rows.set s.rows.length .dead) m' w') m' (s'.rows.set s.rows.length .dead).length (resG s' r) (us'.getD j undef) := fun j r hr => (hus j r hr).mono hGd (by simp) (fun _ _ => rfl)
  match rs, hul, hres with
  | [], hul, _ =>
    have : us' = #[] := Array.eq_empty_of_size_eq_zero (by simpa using hul)
    subst this
    exact .tup _ _ rfl (fun j c v hc => by simp at hc)
  | [r], hul, hres =>
    have h1 : us'.size = 1 := by simpa using hul
    have := hres 0 r rfl
    simp only [packS, pack, h1, dif_pos, List.map_cons, List.map_nil]
    simpa [Array.getD, h1] using this
  | r1 :: r2 :: rs, hul, hres =>
    have h1 : us'.size ≠ 1 := by rw [hul]; simp
    simp only [packS, pack, h1, dif_neg, not_false_iff, List.map_cons]
    refine .tup _ _ (by rw [hul]; simp) (fun j c v hc hv => ?_)
    have hc2 : ((r1 :: r2 :: rs).map (resG s'))[j]? = some c := by simpa using hc
    simp only [List.getElem?_map, Option.map_eq_some_iff] at hc2
    obtain ⟨c', hc', rfl⟩ := hc2
    have := hres j c' hc'
    have e : us'.getD j undef = v := by
      rw [Array.getElem?_eq_some_iff] at hv
      obtain ⟨hlt, e⟩ := hv
      simp [Array.getD, hlt, e]
    rw [e] at this
    exact this

/-- The function's code in the call's place. -/
theorem vo_inline {ops : Array Oper} {rest : List Oper} {t : Nat} {ty : TypeId} {pos : String} {af : Array Edge} {f : FuncId} {fn : Func} {xs : Array Operand} {Ts : Array TypeId} {args : List SV} {c : Code} (L : List Nat) (rs : List (Nat × Option (Nat × Nat)))
    (hf : P.funcs[f]? = some fn) (hnm : (fn.name == "runtime.NumGoroutine") = false) (hb : fn.body = some c) (ht : Nat.blt t s.n = true)
    (hr : fn.results = (rs.map resVar).toArray) (hl : rs.length ≤ 5) (hT : ∀ r ∈ rs, resT P r)
    (hargs : xs.toList.map (getO s.env) = args) (hn : Nat.ble args.length fn.ntmps = true)
    (h : ∀ us : List Value, VC P C c (inQ us s.rows.length L rs s.n t (VO P C ops rest Q)) ⟨fn.ntmps, enumE 0 args, s.rows ++ [.gh us (L.map (look s.env))]⟩) :
    VO P C ops (⟨some t, .call ⟨.value (.func f), xs, Ts⟩, ty, pos, af, none⟩ :: rest) Q s := by
  intro a w ⟨m, hs⟩
  refine wpList_plain rfl fun K hK => ?_
  exact ow_inline L rs (VO P C ops rest Q) hs hf hnm hb ht hr hl hT hargs hn h (fun s' a' w' hk hs' => hK _ _ (hk _ _ hs'))

end
end Go.Vl

/- '!=' on structs of two numbers. -/
namespace Go.Vl
set_option linter.unusedVariables false
set_option linter.unusedSimpArgs false
open Go.RowKit

section
variable {P : Program} {C : Ctx} {Q : Go.Exit → St → Prop} {s : St} {ops : Array Oper} {rest : List Oper} {t : Nat} {ty : TypeId} {pos : String} {af : Array Edge}

theorem lt_neqS2 {xt yt : TypeId} {x y : Operand} {a1 a2 b1 b2 : Int} {f1 f2 : Bool} (h : EqI2 P xt) (hx : getO s.env x = .pv f1 (.agg [.int .i64 a1, .int .i64 a2])) (hy : getO s.env y = .pv f2 (.agg [.int .i64 b1, .int .i64 b2])) :
    Lt P C s ⟨some t, .binOp .neq xt x y yt, ty, pos, af, none⟩ (.pv true (.bool (!(a1 == b1 && a2 == b2)))) := by
  intro m a w hs
  have e1 := hs.get x
  rw [hx] at e1
  have e1 := e1.pv_inv.agg2
  have e2 := hs.get y
  rw [hy] at e2
  have e2 := e2.pv_inv.agg2
  refine ⟨_, fun w' _ => ?_, .pv _ _ _ (.bool _)⟩
  have hg : (eqGuard .neq xt x y (.agg #[.int .i64 a1, .int .i64 a2]) (.agg #[.int .i64 b1, .int .i64 b2])).run P w' = .ok () w' := run_eqGuard_agg w' .neq xt x y _ _ h.2
  have hb : (binOp .neq xt (.agg #[.int .i64 a1, .int .i64 a2]) (.agg #[.int .i64 b1, .int .i64 b2])).run P w' = .ok (.bool (!(a1 == b1 && a2 == b2))) w' := by
    rw [run_neq_struct, h.1]; rfl
  simp only [execOp, e1, e2, Sem.run_bind, hg, Result.andThen_ok, hb]
  rfl

end
section
variable {P : Program}
end
end Go.Vl

/- What yields the same in every world may be taken first, whatever else comes. -/
namespace Go.Vl
set_option linter.unusedVariables false
set_option linter.unusedSimpArgs false
open Go.RowKit

section
variable {P : Program} {ops : Array Oper} {Q : Go.Exit → Act → World → Prop}

def yields0 (P : Program) (ops : Array Oper) (o : Oper) (v : Value) (a : Act) : Prop :=
  (Region.wanted o (yielded ops a.tmps) = true ∧ ∀ w, (execOp a.eval o).run P w = .ok (.value v) w) ∨ (Region.wanted o (yielded ops a.tmps) = false ∧ v = undef)

theorem yields0.step {o : Oper} {v : Value} {a a' : Act} (h : yields0 P ops o v a) (he : execOp a'.eval o = execOp a.eval o)
    (hw : Region.wanted o (yielded ops a'.tmps) = Region.wanted o (yielded ops a.tmps)) : yields0 P ops o v a' := by
  unfold yields0 at *
  rw [he, hw]
  exact h

theorem yields0.op {i : Nat} {o : Oper} {v : Value} {a : Act} {w : World} (hi : ops[i]? = some o) (hy : yields0 P ops o v a) {K : Act → World → Prop} (h : K (a.put o.dst v) w) : wpOp P ops Q i K a w := by
  unfold wpOp
  simp only [hi]
  rcases hy with ⟨hw, hv⟩ | ⟨hw, rfl⟩
  · simp only [hw, if_true, Oper.wp, hv w, Oper.upon]; exact .inl h
  · simp only [hw, Bool.false_eq_true, if_false]; exact h

end

/-- The operation hands back a value that no world changes. -/
def Lt0 (P : Program) (C : Ctx) (s : St) (o : Oper) (sv : SV) : Prop :=
  ∀ m a w, SimM C s m a w → ∃ v, (∀ w', (execOp a.eval o).run P w' = .ok (.value v) w') ∧ RS w (Gd C s.rows m w) m s.rows.length sv v

section
variable {late : List Nat} {P : Program} {C : Ctx} {ops : Array Oper} {K : St → Prop} {s : St} {n : Nat} {listed : Array Bool} {t : Nat} {ty : TypeId} {pos : String} {af : Array Edge}

end
end Go.Vl

/- A row that holds numbers alone points nowhere. -/
namespace Go.Vl
set_option linter.unusedVariables false
set_option linter.unusedSimpArgs false
open Go.RowKit

theorem clean_row {w : World} {G G' : Bool → Nat → Prop} {m m' : Nat → MV} {N N' : Nat} {mv : MV} {t : TypeId} {e : Nat} {nl : Option Bool} {f : Bool} {xs : List PV} (h : RowOK w G m N mv (.own t e nl f xs)) (hp : ∀ x ∈ xs, ∀ c ∈ x.cells, c.scal = true) :
    RowOK w G' m' N' mv (.own t e nl true xs) := by
  cases h with
  | own v t e nl f xs vs hown h1 h2 hw hr =>
    refine .own v t e nl true xs vs hown h1 h2 hw fun i x j c hx hc => ?_
    obtain ⟨u, hu, hq⟩ := hr i x j c hx hc
    exact ⟨u, hu, hq.scal_any (hp x (List.mem_of_getElem? hx) c (List.mem_of_getElem? hc))⟩

section
variable {P : Program} {C : Ctx} {Q : Go.Exit → St → Prop} {s : St} {ops : Array Oper}

theorem SimM.clean {m : Nat → MV} {a : Act} {w : World} (hs : SimM C s m a w) (id : Nat) {el e : Nat} {nl : Option Bool} {f : Bool} {xs : List PV} (hrow : s.rows[id]? = some (.own el e nl f xs)) (hp : ∀ x ∈ xs, ∀ c ∈ x.cells, c.scal = true) :
    SimM C ⟨s.n, s.env, s.rows.set id (.own el e nl true xs)⟩ m a w :=
  hs.storeRow (w' := w) (bo := none) ⟨_, hrow, rfl⟩ (fun _ e => by cases e) ⟨rfl, rfl, rfl, Nat.le_refl _, fun _ _ _ => rfl⟩ _ (fun hG => clean_row (hs.rows id _ hrow) hp)

theorem scal_ints (l : List Int) : ∀ x ∈ l.map intP, ∀ c ∈ x.cells, c.scal = true := by
  intro x hx c hc
  obtain ⟨n, _, rfl⟩ := List.mem_map.1 hx
  simp [PV.cells] at hc
  subst hc; rfl
theorem vo_clean {l : List Oper} (id : Nat) {el e : Nat} {nl : Option Bool} {f : Bool} {xs : List PV} (hrow : s.rows[id]? = some (.own el e nl f xs)) (hp : ∀ x ∈ xs, ∀ c ∈ x.cells, c.scal = true)
    (next : VO P C ops l Q ⟨s.n, s.env, s.rows.set id (.own el e nl true xs)⟩) : VO P C ops l Q s := fun a w ⟨m, hs⟩ => next a w ⟨m, hs.clean id hrow hp⟩
end
end Go.Vl

/- Statements at which two orders of evaluation are known: what holds in whatever order holds in both. -/
namespace Go.Vl
set_option linter.unusedVariables false
set_option linter.unusedSimpArgs false
open Go.RowKit

section
variable {P : Program} {ops : Array Oper} {Q : Go.Exit → Act → World → Prop}

/-- An order in which all can come. -/
def orderB (md : Region.Mode) (ops : Array Oper) : List Nat → List Nat → Bool
  | seen, [] => (List.range ops.size).all fun j => seen.contains j
  | seen, i :: r => (match ops[i]? with
    | some o => o.after.all fun e => !Region.binds md e || seen.contains e.on
    | none => true) && orderB md ops (i :: seen) r

end

end Go.Vl

/- Elements of several cells in a row of the call's own: one cell of them, or a part that is a struct, is read. -/
namespace Go.Vl
set_option linter.unusedVariables false
set_option linter.unusedSimpArgs false
open Go.RowKit

section
variable {P : Program} {C : Ctx} {Q : Go.Exit → St → Prop} {s : St} {ops : Array Oper} {rest : List Oper} {t : Nat} {ty : TypeId} {pos : String} {af : Array Edge}

end
end Go.Vl

/- A row takes another one in and may move: 'append' of a slice that is the program's own to a row whose slices are its own. -/
namespace Go.Vl
set_option linter.unusedVariables false
set_option linter.unusedSimpArgs false
open Go.RowKit

theorem SimM.joinRow {C : Ctx} {s : St} {m : Nat → MV} {a : Act} {w w' : World} (h : SimM C s m a w) {id j : Nat} (hne : id ≠ j) (hid : liveAt s.rows id) (hj : liveAt s.rows j) (hnb : C.nb ≤ id) (hnj : C.nb ≤ j)
    {bo : Option Nat} (hbo : ∀ b, bo = some b → (m id).S b) (hg : w.grownBy w' bo) (r : Row) (v : MV)
    (hb : ∀ b, v.S b → (m id).S b ∨ (m j).S b ∨ w.heap.size ≤ b)
    (hr : (∀ fr b, Gd C s.rows m w fr b → Gd C (((s.rows.map (Row.kill id)).set j .dead).set id r) (updM m id v) w' fr b ∧ w'.heap[b]? = w.heap[b]?) →
      RowOK w' (Gd C (((s.rows.map (Row.kill id)).set j .dead).set id r) (updM m id v) w') (updM m id v) s.rows.length v r) :
    SimM C ⟨s.n, killE id s.env, ((s.rows.map (Row.kill id)).set j .dead).set id r⟩ (updM m id v) a w' := by
  have hidl : id < s.rows.length := by
    obtain ⟨q, hq, _⟩ := hid
    exact (List.getElem?_eq_some_iff.1 hq).1
  have hjl : j < s.rows.length := by
    obtain ⟨q, hq, _⟩ := hj
    exact (List.getElem?_eq_some_iff.1 hq).1
  have hlive : ∀ i, liveAt (((s.rows.map (Row.kill id)).set j .dead).set id r) i → i ≠ j ∧ liveAt s.rows i := by
    intro i ⟨q, hq, hv⟩
    rw [List.getElem?_set] at hq
    split at hq
    · rename_i e; subst e; exact ⟨hne, hid⟩
    · rw [List.getElem?_set] at hq
      split at hq
      · simp [hjl] at hq; subst hq; cases hv
      · rename_i e; exact ⟨Ne.symm e, liveAt_kill ⟨q, hq, hv⟩⟩
  have hSof : ∀ i b, i ≠ j → liveAt s.rows i → (updM m id v i).S b → w.heap.size ≤ b ∨ ∃ k, liveAt s.rows k ∧ (m k).S b ∧ (k = i ∨ (i = id ∧ k = j)) := by
    intro i b hij hl hb1
    by_cases e : i = id
    · subst e
      rw [updM_same] at hb1
      rcases hb b hb1 with h1 | h1 | h1
      · exact .inr ⟨i, hl, h1, .inl rfl⟩
      · exact .inr ⟨j, hj, h1, .inr ⟨rfl, rfl⟩⟩
      · exact .inl h1
    · rw [updM_ne _ _ e] at hb1
      exact .inr ⟨i, hl, hb1, .inl rfl⟩
  have hbig : ∀ i b, i ≠ j → liveAt s.rows i → (updM m id v i).S b → w.heap.size ≤ b → i = id := by
    intro i b hij hl hb1 hsz
    by_cases e : i = id
    · exact e
    · rw [updM_ne _ _ e] at hb1
      have := h.lt hl hb1
      omega
  have hG : ∀ fr b, Gd C s.rows m w fr b → Gd C (((s.rows.map (Row.kill id)).set j .dead).set id r) (updM m id v) w' fr b ∧ w'.heap[b]? = w.heap[b]? := by
    refine Gd.step (fun b => (m id).S b) hg.size (fun k hk hn => hg.block k hk (fun e => hn (hbo k e.symm))) (fun k hk => ⟨id, hid, hk⟩) (fun b hlt ⟨i, hl, hbk⟩ => ?_)
    obtain ⟨h1, h2⟩ := hlive i hl
    rcases hSof i b h1 h2 hbk with h3 | ⟨k, h3, h4, _⟩
    · omega
    · exact ⟨k, h3, h4⟩
  have hlen : (((s.rows.map (Row.kill id)).set j .dead).set id r).length = s.rows.length := by simp
  exact {
    defs := h.defs
    size := h.size
    os := hg.os.trans h.os
    tape := hg.tape.trans h.tape
    output := hg.output.trans h.output
    hsz := Nat.le_trans h.hsz hg.size
    old := fun k hk hn => (hg.block k (by have := h.hsz; omega) (fun e => by have := h.newb id k hnb hid (hbo k e.symm); omega)).trans (h.old k hk hn)
    bor := fun i hi => by rw [updM_ne _ _ (by omega)]; exact h.bor i hi
    nbl := by have := h.nbl; show C.nb ≤ (((s.rows.map (Row.kill id)).set j .dead).set id r).length; rw [hlen]; exact this
    newb := fun i b hi hl hbk => by
      obtain ⟨h1, h2⟩ := hlive i hl
      rcases hSof i b h1 h2 hbk with h3 | ⟨k, h3, h4, h5⟩
      · have := h.hsz; omega
      · exact h.newb k b (by rcases h5 with rfl | ⟨_, rfl⟩ <;> omega) h3 h4
    dist := fun i1 i2 b h1 h2 hb1 hb2 => by
      obtain ⟨a1, a2⟩ := hlive i1 h1
      obtain ⟨c1, c2⟩ := hlive i2 h2
      rcases hSof i1 b a1 a2 hb1 with hz | ⟨k1, k2, k3, k4⟩
      · rw [hbig i1 b a1 a2 hb1 hz, hbig i2 b c1 c2 hb2 hz]
      · rcases hSof i2 b c1 c2 hb2 with hz | ⟨l1, l2, l3, l4⟩
        · rw [hbig i1 b a1 a2 hb1 hz, hbig i2 b c1 c2 hb2 hz]
        · have e := h.dist k1 l1 b k2 l2 k3 l3
          rcases k4 with rfl | ⟨rfl, rfl⟩ <;> rcases l4 with rfl | ⟨rfl, rfl⟩
          · exact e
          · exact absurd e a1
          · exact absurd e.symm c1
          · rfl
    rows := fun i q hq => by
      change (((s.rows.map (Row.kill id)).set j .dead).set id r)[i]? = some q at hq
      show RowOK w' _ _ (((s.rows.map (Row.kill id)).set j .dead).set id r).length _ q
      rw [hlen]
      rw [List.getElem?_set] at hq
      split at hq
      · rename_i e
        subst e
        simp [hidl] at hq
        subst hq
        rw [updM_same]
        exact hr hG
      · rename_i e
        rw [List.getElem?_set] at hq
        split at hq
        · simp [hjl] at hq; subst hq; exact .dead _
        · rename_i e2
          rw [getElem?_killRows] at hq
          simp only [Option.map_eq_some_iff] at hq
          obtain ⟨q', hq', rfl⟩ := hq
          rw [updM_ne _ _ (Ne.symm e)]
          exact RowOK.kill hG (fun k hk => updM_ne _ _ hk) (h.rows i q' hq') (fun hd b hbk => hg.block b (h.lt ⟨q', hq', hd⟩ hbk) (fun eb => e (h.dist id i b hid ⟨q', hq', hd⟩ (hbo b eb.symm) hbk)))
    env := fun u => by
      show RS w' _ _ (((s.rows.map (Row.kill id)).set j .dead).set id r).length (look (killE id s.env) u) _
      rw [hlen, look_killE]
      exact (h.env u).kill hG (fun k hk => updM_ne _ _ hk) }
end Go.Vl

/- Rows whose slices are their own: a slice literal of one such slice, and 'append'. -/
namespace Go.Vl
set_option linter.unusedVariables false
set_option linter.unusedSimpArgs false
open Go.RowKit

section
variable {P : Program} {C : Ctx} {Q : Go.Exit → St → Prop} {s : St} {ops : Array Oper} {rest : List Oper} {t : Nat} {ty : TypeId} {pos : String} {af : Array Edge}

end
end Go.Vl

/- A row whose slices are its own becomes a row of slices that are read alone. -/
namespace Go.Vl
set_option linter.unusedVariables false
set_option linter.unusedSimpArgs false
open Go.RowKit
section
variable {P : Program} {C : Ctx} {Q : Go.Exit → St → Prop} {s : St} {ops : Array Oper}

end
end Go.Vl

/- Structs whose cells are rows of the call's own: built, boxed, read, written. -/
namespace Go.Vl
set_option linter.unusedVariables false
set_option linter.unusedSimpArgs false
open Go.RowKit

def cellsG : SV → Option (List SV)
  | .ag ys => some ys
  | .pv f p => some (p.cells.map fun c => .pv (f || c.scal) c)
  | .ref id => some [.ref id]
  | .ptr id e i o => some [.ptr id e i o]
  | _ => none

def okG (rows : List Row) : SV → Bool
  | .ref id => match rows[id]? with
    | some r => r.live
    | none => false
  | _ => true

section
variable {P : Program} {C : Ctx} {Q : Go.Exit → St → Prop} {s : St}
variable {ops : Array Oper} {rest : List Oper} {t : Nat} {ty : TypeId} {pos : String} {af : Array Edge}

theorem row_one {w : World} {G : Bool → Nat → Prop} {m : Nat → MV} {N : Nat} {mv : MV} {r : Row} (h : RowOK w G m N mv r) (hl : r.live = true) : mv.v.oneCell' = true := by
  cases h with
  | dead => cases hl
  | gh => cases hl
  | own v t e nl fr xs vs hown => rcases hown.2 with ⟨rfl, _⟩ | ⟨g, cap, cur, rfl, _⟩ <;> rfl
  | var => rfl
  | mp => rfl
  | tree mv t e nl h xs vals Sf hown => rcases hown.2 with ⟨h, _⟩ | ⟨g, cap, cur, h, _⟩ <;> rw [h] <;> rfl

theorem cells_one {v : Value} (h : v.oneCell' = true) : v.cells = #[v] := by cases v <;> simp_all [Value.cells, Value.oneCell']

theorem SimM.cellsG {m : Nat → MV} {a : Act} {w : World} (h : SimM C s m a w) {x : Operand} {ys : List SV} (hy : cellsG (getO s.env x) = some ys) (hok : okG s.rows (getO s.env x) = true) :
    (a.eval x).cells.size = ys.length ∧ (∀ (j : Nat) (c : SV) (u : Value), ys[j]? = some c → (a.eval x).cells[j]? = some u → RS w (Gd C s.rows m w) m s.rows.length c u) ∧
      (∀ (j : Nat) (u : Value), (a.eval x).cells[j]? = some u → u.oneCell' = true) := by
  have hv := h.get x
  have one : ∀ (sv : SV) (v : Value), RS w (Gd C s.rows m w) m s.rows.length sv v → v.oneCell' = true → ys = [sv] →
      v.cells.size = ys.length ∧ (∀ (j : Nat) (c : SV) (u : Value), ys[j]? = some c → v.cells[j]? = some u → RS w (Gd C s.rows m w) m s.rows.length c u) ∧ (∀ (j : Nat) (u : Value), v.cells[j]? = some u → u.oneCell' = true) := by
    intro sv v hr h1 e
    subst e
    rw [cells_one h1]
    refine ⟨rfl, fun j c u hc hu => ?_, fun j u hu => ?_⟩
    · match j, hc, hu with
      | 0, hc, hu => simp at hc hu; subst hc; subst hu; exact hr
    · match j, hu with
      | 0, hu => simp at hu; subst hu; exact h1
  generalize getO s.env x = sv at *
  generalize a.eval x = v at *
  cases hv with
  | any => cases hy
  | val => cases hy
  | und => cases hy
  | adr => cases hy
  | tup => cases hy
  | sub => cases hy
  | clo => cases hy
  | ag vs us hl h9 h1 => cases hy; exact ⟨hl, h9, h1⟩
  | ref id hid =>
    simp only [Vl.cellsG, Option.some.injEq] at hy
    simp only [okG] at hok
    split at hok
    · rename_i r hr
      exact one _ _ (.ref id hid) (row_one (h.rows id r hr) hok) hy.symm
    · cases hok
  | ptr id e i o b hid hb =>
    simp only [Vl.cellsG, Option.some.injEq] at hy
    exact one _ _ (.ptr id e i o b hid hb) rfl hy.symm
  | pv fr p v hp =>
    simp only [Vl.cellsG, Option.some.injEq] at hy
    subst hy
    have hc := hp.cells
    refine ⟨by simpa using hc.1, fun j c u hcj hu => ?_, fun j u hu => ?_⟩
    · simp only [List.getElem?_map, Option.map_eq_some_iff] at hcj
      obtain ⟨c', hc', rfl⟩ := hcj
      obtain ⟨u', hu', hp'⟩ := hc.2 j c' hc'
      rw [hu] at hu'
      cases hu'
      cases hsc : c'.scal with
      | true => simp only [Bool.or_true]; exact .pv _ _ _ (hp'.scal_any hsc)
      | false => simp only [Bool.or_false]; exact .pv _ _ _ hp'
    · have hj : j < p.cells.length := by rw [← hc.1]; exact (Array.getElem?_eq_some_iff.1 hu).1
      obtain ⟨u', hu', hp'⟩ := hc.2 j _ (List.getElem?_eq_getElem hj)
      rw [hu] at hu'
      cases hu'
      refine hp'.oneCell ?_
      cases hp with
      | agg cs vs hl h1 h9 => exact h1 j _ (List.getElem?_eq_getElem hj)
      | _ => simp only [PV.cells] at hj ⊢; have : j = 0 := by simpa using hj
             subst this; rfl

/-- A struct of whatever cells gets a variable of its own. -/
theorem vo_boxG {x : Operand} {S : TypeId} {ys : List SV} (ht : Nat.blt t s.n = true) (hy : cellsG (getO s.env x) = some ys) (hok : okG s.rows (getO s.env x) = true)
    (next : VO P C ops rest Q ⟨s.n, (t, .ptr s.rows.length 0 0 0) :: s.env, s.rows ++ [.var S ys]⟩) :
    VO P C ops (⟨some t, .box S x, ty, pos, af, none⟩ :: rest) Q s := by
  refine vo_value (s1 := { s with rows := s.rows ++ [.var S ys] }) (sv := .ptr s.rows.length 0 0 0) ht (fun m a w hs => ?_) next
  obtain ⟨hvl, h, hone1⟩ := hs.cellsG hy hok
  generalize hvs : (a.eval x).cells = vs at *
  have hadd := hs.addRow (w' := w.alloc (.cells vs S)) (World.grownBy_alloc w _ none) (.var S ys) (.of <| .pointer (some ⟨w.heap.size, 0, none⟩))
    (fun b hb => by simp [MV.of, blk] at hb; omega) (fun hG => .var w.heap.size S _ vs (heap_alloc_new w _) hvl (fun j c u hc hu => (h j c u hc hu).mono (N' := s.rows.length + 1) hG (by omega) (fun i hi => updM_ne _ _ (by omega))) hone1)
  refine ⟨.pointer (some ⟨w.heap.size, 0, none⟩), _, _, by simp [execOp, Instr.box, newVar, newRow, hvs], hadd.1, ?_⟩
  exact .ptr s.rows.length 0 0 0 w.heap.size (by simp) (by rw [updM_same]; rfl)

def applyG (pl : List (Nat × Nat)) : List SV → List (Nat × List SV) → Option (List SV)
  | cs, [] => some cs
  | cs, (k, p) :: r => match pl[k]? with
    | some (off, sz) => bif Nat.beq p.length sz && Nat.ble (off + sz) cs.length then applyG pl (cs.take off ++ p ++ cs.drop (off + sz)) r else none
    | none => none

def collectG (env : List (Nat × SV)) (rows : List Row) : List (Nat × Operand) → Option (List (Nat × List SV))
  | [] => some []
  | (k, x) :: r => match cellsG (getO env x), collectG env rows r with
    | some ys, some ps => bif okG rows (getO env x) then some ((k, ys) :: ps) else none
    | _, _ => none

end
end Go.Vl

/- 'append' to a row whose cells' type is not known (it was taken out of another), and a tree's cell that is known. -/
namespace Go.Vl
set_option linter.unusedVariables false
set_option linter.unusedSimpArgs false
open Go.RowKit
section
variable {P : Program} {C : Ctx} {Q : Go.Exit → St → Prop} {s : St} {ops : Array Oper} {rest : List Oper} {t : Nat} {ty : TypeId} {pos : String} {af : Array Edge}

end
section
variable {late : List Nat} {P : Program} {C : Ctx} {ops : Array Oper} {K : St → Prop} {s s1 : St} {n : Nat} {listed : Array Bool}
def StepV (late : List Nat) (P : Program) (C : Ctx) (ops : Array Oper) (n : Nat) (listed : Array Bool) (K : St → Prop) (s : St) (i : Nat) : Prop :=
  ∀ m a w, SimM C s m a w → wpOp P ops (post0 C K) i (fun a' w' => (ExtW w w' ∨ late.contains i = true) ∧ anyL late P ops (post0 C K) n (listed.setIfInBounds i true) a' w') a w
end
end Go.Vl

/- Rows of structs whose slices are their own: an element's slices are taken out as rows, and put back. -/
namespace Go.Vl
set_option linter.unusedVariables false
set_option linter.unusedSimpArgs false
open Go.RowKit

theorem grown_refl (w : World) : w.grownBy w none := ⟨rfl, rfl, rfl, Nat.le_refl _, fun _ _ _ => rfl⟩

def okTake : PV → Bool
  | .sl _ _ _ => true
  | c => c.scal

def takePV (c : PV) : PV := match c with
  | .sl _ _ _ => .gone
  | c => c

def takeP : PV → PV
  | .agg cs => .agg (cs.map takePV)
  | c => takePV c

def takeSV : Nat → List PV → List SV
  | _, [] => []
  | N, .sl _ _ _ :: cs => .ref N :: takeSV (N + 1) cs
  | N, c :: cs => .pv true c :: takeSV N cs

def takeRows (Rf : Nat → TypeId) : Nat → List PV → List Row
  | _, [] => []
  | k, .sl nl e xs :: cs => .tree (Rf k) e nl none xs :: takeRows Rf (k + 1) cs
  | k, _ :: cs => takeRows Rf k cs

/-- The places of the slices among cells. -/
def takePos : Nat → List PV → List Nat
  | _, [] => []
  | j, .sl _ _ _ :: cs => j :: takePos (j + 1) cs
  | j, _ :: cs => takePos (j + 1) cs

section
variable {P : Program} {C : Ctx} {Q : Go.Exit → St → Prop} {s : St} {ops : Array Oper} {rest : List Oper} {t : Nat} {ty : TypeId} {pos : String} {af : Array Edge}

end
end Go.Vl

/- An element's slices are put back into a row whose slices are its own; literals of such elements, and 'append'. -/
namespace Go.Vl
set_option linter.unusedVariables false
set_option linter.unusedSimpArgs false
open Go.RowKit

def deadAll (ks : List Nat) (rows : List Row) : List Row := ks.foldl (fun r k => r.set k .dead) rows

def refsOf : List SV → List Nat
  | [] => []
  | .ref k :: r => k :: refsOf r
  | _ :: r => refsOf r

/-- What goes into a cell. -/
def pvT (rows : List Row) : SV → Option PV
  | .pv _ c => bif c.scal then some c else match c with
    | .sl (some true) e [] => some (.sl (some true) e [])
    | _ => none
  | .ref k => match rows[k]? with
    | some (.tree _ e nl none xs) => some (.sl nl e xs)
    | _ => none
  | _ => none

def pvTs (rows : List Row) : List SV → Option (List PV)
  | [] => some []
  | y :: ys => match pvT rows y, pvTs rows ys with
    | some p, some ps => some (p :: ps)
    | _, _ => none

/-- The blocks of a cell's own. -/
def sOf (m : Nat → MV) (ys : List SV) (j b : Nat) : Prop := ∃ k, ys[j]? = some (.ref k) ∧ (m k).S b

section
variable {P : Program} {C : Ctx} {Q : Go.Exit → St → Prop} {s : St} {ops : Array Oper} {rest : List Oper} {t : Nat} {ty : TypeId} {pos : String} {af : Array Edge}

end
end Go.Vl

/- Literals of elements whose slices are their own; 'append' of them; their plain cells. -/
namespace Go.Vl
set_option linter.unusedVariables false
set_option linter.unusedSimpArgs false
open Go.RowKit

section
variable {P : Program} {C : Ctx} {Q : Go.Exit → St → Prop} {s : St} {ops : Array Oper} {rest : List Oper} {t : Nat} {ty : TypeId} {pos : String} {af : Array Edge}

end
end Go.Vl

/- Maps from numbers to numbers that the call made itself. -/
namespace Go.Vl
set_option linter.unusedVariables false
set_option linter.unusedSimpArgs false
open Go.RowKit

def mapI (h : Int → Option Int) : Int → Option PV := fun k => (h k).map intP
def updI (h : Int → Option Int) (k v : Int) : Int → Option Int := fun j => if j = k then some v else h j
def delI (h : Int → Option Int) (k : Int) : Int → Option Int := fun j => if j = k then none else h j
def nilI : Int → Option Int := fun _ => none

section
variable {P : Program} {C : Ctx} {Q : Go.Exit → St → Prop} {s : St} {ops : Array Oper} {rest : List Oper} {t : Nat} {ty : TypeId} {pos : String} {af : Array Edge}

end
end Go.Vl

/- Parts of a slice of the call's own: 'append(x[:i], x[j:]...)', a slice cut shorter, 'clear' behind its end. -/
namespace Go.Vl
set_option linter.unusedVariables false
set_option linter.unusedSimpArgs false
open Go.RowKit

section
variable {P : Program} {C : Ctx} {Q : Go.Exit → St → Prop} {s : St} {ops : Array Oper} {rest : List Oper} {t : Nat} {ty : TypeId} {pos : String} {af : Array Edge}

theorem SimM.sub {m : Nat → MV} {a : Act} {w : World} (hs : SimM C s m a w) {x : Operand} {id e l h c : Nat} (hx : getO s.env x = .sub id e l h c) : isSub (m id).v e l h c (a.eval x) ∧ id < s.rows.length := by
  have := hs.get x
  rw [hx] at this
  generalize a.eval x = v at this
  cases this with
  | sub _ _ _ _ _ _ hid hs => exact ⟨hs, hid⟩

end
end Go.Vl

/- Loops in which some slots and some rows turn; states made plain. -/
namespace Go.Vl
set_option linter.unusedVariables false
set_option linter.unusedSimpArgs false
open Go.RowKit

def setAll : List Row → List Nat → List Row → List Row
  | rows, [], _ => rows
  | rows, _ :: _, [] => rows
  | rows, i :: is, r :: rs => setAll (rows.set i r) is rs

def pickR (rows : List Row) (ch : List Nat) : List Row := ch.map fun i => (rows[i]?).getD .dead

section
variable {P : Program} {C : Ctx} {Q : Go.Exit → St → Prop} {s : St}

def againE (N : Nat) (Lf Lv ch : List Nat) (k : Nat) (F : List SV) (R : List Row) (I : Nat → List SV → List Row → Prop) (n : Nat) (s' : St) : Prop :=
  again N (Lf ++ Lv) k (fun m us rows => us.take Lf.length = F ∧ ∃ rs, rs.length = ch.length ∧ rows = setAll R ch rs ∧ I m (us.drop Lf.length) rs) n s'

/-- A loop whose slots Lf stay as they are, and all rows but those of ch. -/
theorem vc_loopE {c : Code} (Lf Lv ch : List Nat) (F : List SV) (R : List Row) (I : Nat → List SV → List Row → Prop) (n0 : Nat) (hF : (Lf.map fun t => look s.env t) = F) (hR : s.rows = R) (hnb : C.nb ≤ R.length)
    (hb0 : F.all (SV.bdd R.length) = true ∧ (Lv.map fun t => look s.env t).all (SV.bdd R.length) = true ∧ R.all (Row.bdd R.length) = true) (hself : setAll R ch (pickR R ch) = R)
    (h0 : I n0 (Lv.map fun t => look s.env t) (pickR R ch))
    (hround : ∀ n vs rs, vs.length = Lv.length → rs.length = ch.length → I n vs rs → VC P C c (thn (againE s.n Lf Lv ch R.length F R I n) Q) ⟨s.n, Lf.zip F ++ Lv.zip vs, setAll R ch rs⟩) :
    VC P C (.loop c) Q s := by
  subst hR
  subst hF
  have hl : (Lf.map fun t => look s.env t).length = Lf.length := by simp
  refine vc_loop (Lf ++ Lv) (fun m us rows => us.take Lf.length = (Lf.map fun t => look s.env t) ∧ ∃ rs, rs.length = ch.length ∧ rows = setAll s.rows ch rs ∧ I m (us.drop Lf.length) rs) n0 hnb ⟨?_, hb0.2.2⟩ ⟨?_, pickR s.rows ch, by simp [pickR], hself.symm, ?_⟩ ?_
  · rw [List.map_append, List.all_append, hb0.1, hb0.2.1]; rfl
  · rw [List.map_append]; simp
  · rw [List.map_append, show Lf.length = (Lf.map fun t => look s.env t).length from hl.symm, List.drop_left]; exact h0
  · rintro n vs rows hv - ⟨h1, rs, hrs, rfl, h2⟩
    have hv' : vs.length = Lf.length + Lv.length := by simpa using hv
    have := hround n (vs.drop Lf.length) rs (by simp; omega) hrs h2
    have e : (Lf ++ Lv).zip vs = Lf.zip (Lf.map fun t => look s.env t) ++ Lv.zip (vs.drop Lf.length) := by
      rw [← h1]
      conv => lhs; rw [← List.take_append_drop Lf.length vs]
      exact List.zip_append (by simp; omega)
    rw [e]
    exact this

theorem againE_mk {N : Nat} {Lf Lv ch : List Nat} {k : Nat} {F : List SV} {R : List Row} {I : Nat → List SV → List Row → Prop} {n : Nat} {s' : St} (h0 : Nat.beq s'.n N = true) (h1 : Nat.ble k s'.rows.length = true)
    (h2 : ((Lf ++ Lv).map fun t => look s'.env t).all (SV.bdd k) = true) (h3 : (s'.rows.take k).all (Row.bdd k) = true)
    (hF : (Lf.map fun t => look s'.env t) = F) (hR : s'.rows.take k = setAll R ch (pickR s'.rows ch))
    (h : ∃ n', n' < n ∧ I n' (Lv.map fun t => look s'.env t) (pickR s'.rows ch)) : againE N Lf Lv ch k F R I n s' := by
  refine ⟨⟨Nat.eq_of_beq_eq_true h0, Nat.le_of_ble_eq_true h1, h2, h3⟩, ?_⟩
  obtain ⟨n', hn, hI⟩ := h
  refine ⟨n', hn, ?_, pickR s'.rows ch, by simp [pickR], hR, ?_⟩
  · rw [List.map_append, ← hF]; simp
  · rw [List.map_append, show Lf.length = (Lf.map fun t => look s'.env t).length by simp, List.drop_left]; exact hI
end

section
variable {late : List Nat} {P : Program} {C : Ctx} {Q : Go.Exit → St → Prop} {K : St → Prop} {s s' : St} {ops : Array Oper} {n : Nat} {listed : Array Bool}
theorem vo_stM {l : List Oper} (next : VO P C ops l Q s') (h : s = s' := by (try simp only [St.put, exposeE, killE, SV.expose, SV.kill, Row.expose, Row.kill, rowsAfter_nil, rowsAfter_one, packS, SV.shift, placeOf, enumE, List.zip_cons_cons, List.zip_nil_right, List.map_cons, List.map_nil, List.set_cons_zero, List.set_cons_succ, List.length_cons, List.length_nil, List.cons_append, List.nil_append, List.drop_succ_cons, List.drop_zero, List.drop_nil, List.take_succ_cons, List.take_zero, List.take_nil, List.getElem?_cons_zero, List.getElem?_cons_succ, List.getElem?_nil, Option.getD_some, Option.getD_none, Option.map_some, Option.map_none, Nat.reduceAdd, Nat.reduceSub, Nat.reduceEqDiff, Nat.zero_add, Bool.true_or, PV.scal, Bool.or_false, Bool.or_true, Bool.false_or, Bool.and_true, Bool.and_false, Bool.true_and, reduceIte, reduceCtorEq, SV.kill1, SV.expose1, deadAll, refsOf, List.foldl_cons, List.foldl_nil, takeSV, takeRows, takeP, takePV, setAll, resG, look_cons, Nat.succ.injEq, Nat.add_eq, Nat.mul_one, Nat.mul_zero, Nat.zero_mul, Nat.add_zero, List.map_map, PV.cells, Nat.reduceMul, List.append_nil, Option.some.injEq, Int.toNat_natCast]); exact eq_refl _) : VO P C ops l Q s := vo_st h next
theorem vc_stM {code : Code} (next : VC P C code Q s') (h : s = s' := by (try simp only [St.put, exposeE, killE, SV.expose, SV.kill, Row.expose, Row.kill, rowsAfter_nil, rowsAfter_one, packS, SV.shift, placeOf, enumE, List.zip_cons_cons, List.zip_nil_right, List.map_cons, List.map_nil, List.set_cons_zero, List.set_cons_succ, List.length_cons, List.length_nil, List.cons_append, List.nil_append, List.drop_succ_cons, List.drop_zero, List.drop_nil, List.take_succ_cons, List.take_zero, List.take_nil, List.getElem?_cons_zero, List.getElem?_cons_succ, List.getElem?_nil, Option.getD_some, Option.getD_none, Option.map_some, Option.map_none, Nat.reduceAdd, Nat.reduceSub, Nat.reduceEqDiff, Nat.zero_add, Bool.true_or, PV.scal, Bool.or_false, Bool.or_true, Bool.false_or, Bool.and_true, Bool.and_false, Bool.true_and, reduceIte, reduceCtorEq, SV.kill1, SV.expose1, deadAll, refsOf, List.foldl_cons, List.foldl_nil, takeSV, takeRows, takeP, takePV, setAll, resG, look_cons, Nat.succ.injEq, Nat.add_eq, Nat.mul_one, Nat.mul_zero, Nat.zero_mul, Nat.add_zero, List.map_map, PV.cells, Nat.reduceMul, List.append_nil, Option.some.injEq, Int.toNat_natCast]); exact eq_refl _) : VC P C code Q s := vc_st h next
end
end Go.Vl

/- The way into a function, and what it hands back: values, structs, and rows of its own. -/
namespace Go.Vl
set_option linter.unusedVariables false
set_option linter.unusedSimpArgs false
open Go.RowKit

def retQ (C : Ctx) (rs : List (Nat × Option (Nat × Nat))) (R : List SV → List Row → Prop) (e : Go.Exit) (s : St) : Prop :=
  (e = .normal ∨ e = .ret) ∧ rs.all (resGOK s) = true ∧ ∃ res rows', res.length = rs.length ∧ Hands C (List.range rs.length) res rows' ⟨rs.length, enumE 0 (rs.map (resG s)), s.rows⟩ ∧ R res rows'

section
variable {P : Program}

theorem sat_entry_G {f : FuncId} {fn : Func} {c : Code} {args : List SV} {rows : List Row} {R : List SV → List Row → Prop} {rs : List (Nat × Option (Nat × Nat))} (hf : P.funcs[f]? = some fn) (hb : fn.body = some c)
    (hr : fn.results = (rs.map resVar).toArray) (hl : rs.length ≤ 5) (hn : args.length ≤ fn.ntmps) (hT : ∀ r ∈ rs, resT P r)
    (h : ∀ C : Ctx, C.nb = rows.length → VC P C c (retQ C rs R) ⟨fn.ntmps, enumE 0 args, rows⟩) : SatAt P f args rows R := by
  intro C m vals hnb hA hv hs
  refine calls_of_wp hf hb ?_
  have hs2 : SimM C ⟨fn.ntmps, enumE 0 args, rows⟩ m { tmps := vals ++ Array.replicate (fn.ntmps - vals.size) undef, defers := [] } C.w0 := by
    refine { hs with size := ?_, env := fun t => ?_, defs := rfl }
    · simp; omega
    · have := hs.env t
      show RS _ _ _ _ (look (enumE 0 args) t) _
      change RS _ _ _ _ (look (enumE 0 args) t) _ at this
      by_cases ht : t < vals.size
      · have e : (vals ++ Array.replicate (fn.ntmps - vals.size) undef).getD t undef = vals.getD t undef := by
          simp [Array.getD, ht]
          intro hh; omega
        rw [e]
        exact this
      · have e : look (enumE 0 args) t = .any := by
          rw [look_enumE]
          simp
          rw [List.getElem?_eq_none (by omega)]
          rfl
        rw [e]
        exact .any _
  refine wp_mono (h C hnb _ _ ⟨m, hs2⟩) ?_
  rintro e a w' ⟨s', ⟨m', hs'⟩, he, hok, res, rows', hlen, hh, hR⟩
  obtain ⟨us, hrun, hul, hus⟩ := run_resGA (P := P) hs' hr hl hT hok
  have hs3 : SimM C ⟨rs.length, enumE 0 (rs.map (resG s')), s'.rows⟩ m' ⟨us, []⟩ w' := { hs' with
    defs := rfl
    size := hul
    env := fun t => by
      show RS _ _ _ _ (look (enumE 0 (rs.map (resG s'))) t) _
      rw [look_enumE]
      simp only [Nat.zero_le, if_true, Nat.sub_zero]
      rcases Nat.lt_or_ge t rs.length with ht | ht
      · simp only [List.getElem?_map, List.getElem?_eq_getElem ht, Option.map_some, Option.getD_some]
        exact hus t _ (List.getElem?_eq_getElem ht)
      · simp only [List.getElem?_map, List.getElem?_eq_none ht, Option.map_none, Option.getD_none]
        exact .any _ }
  obtain ⟨m2, hm2⟩ := hh m' _ w' hs3
  have hts : ((List.range rs.length).map fun t => us.getD t undef).toArray = us := by
    apply Array.ext_getElem?
    intro i
    simp only [List.getElem?_toArray, List.getElem?_map]
    rcases Nat.lt_or_ge i rs.length with hi | hi
    · rw [List.getElem?_range hi, Array.getElem?_eq_getElem (by omega)]
      simp [Array.getD, show i < us.size by omega]
    · rw [List.getElem?_eq_none (by simpa using hi), Array.getElem?_eq_none (by omega)]
      rfl
  have key : ∃ v, (results fn a.tmps).run P w' = .ok v w' ∧ (∃ (us : Array Value) (res : List SV) (rows' : List Row) (m' : Nat → MV), Ending.returned v = .returned (pack us) ∧ us.size = res.length ∧
      SimM C ⟨us.size, enumE 0 res, rows'⟩ m' ⟨us, []⟩ w' ∧ R res rows') := by
    refine ⟨_, hrun, us, res, rows', m2, rfl, by rw [hul, hlen], ?_, hR⟩
    change SimM C ⟨_, _, _⟩ m2 ⟨((List.range rs.length).map fun t => us.getD t undef).toArray, []⟩ w' at hm2
    rw [hts] at hm2
    rw [hul]
    simpa using hm2
  obtain ⟨v, hv1, hv2⟩ := key
  rcases he with rfl | rfl
  · exact ⟨hs'.defs, v, hv1, hv2⟩
  · exact ⟨hs'.defs, v, hv1, hv2⟩

theorem retQ_sel {C : Ctx} {rs : List (Nat × Option (Nat × Nat))} {R : List SV → List Row → Prop} {s : St} {e : Go.Exit} {k : Nat} (sel : List Nat) {srows : List Row} (he : e = .normal ∨ e = .ret) (hnb : C.nb = k) (hok : rs.all (resGOK s) = true) (hkl : Nat.ble k s.rows.length = true)
    (h3 : sel.map (placeOf sel) = (List.range sel.length).map some) (hsr : sel.map (fun id => s.rows[id]?) = srows.map some) (hge : sel.all (fun id => Nat.ble k id) = true) (hb1 : (s.rows.take k).all (Row.bdd k) = true) (hb2 : srows.all (Row.bdd 0) = true)
    (hR : R ((List.range rs.length).map fun t => renS k sel (look (enumE 0 (rs.map (resG s))) t)) (s.rows.take k ++ srows)) : retQ C rs R e s :=
  ⟨he, hok, _, _, by simp, hands_sel (s := ⟨rs.length, enumE 0 (rs.map (resG s)), s.rows⟩) (ts := List.range rs.length) sel hnb hkl h3 hsr hge hb1 hb2, hR⟩
end
end Go.Vl

/- A field of an element of a row is written. -/
namespace Go.Vl
set_option linter.unusedVariables false
set_option linter.unusedSimpArgs false
open Go.RowKit
section
variable {P : Program} {C : Ctx} {Q : Go.Exit → St → Prop} {s : St} {ops : Array Oper} {rest : List Oper} {t : Nat} {ty : TypeId} {pos : String} {af : Array Edge}

theorem vo_store_ownC {x y : Operand} {T id R e i o : Nat} {nl : Option Bool} {fr f : Bool} {xs cs : List PV} {c : PV} {inf : TypeInfo} (hx : getO s.env x = .ptr id e i o) (hrow : s.rows[id]? = some (.own R e nl fr xs))
    (hy : getO s.env y = .pv f c) (hna : c.isAgg = false) (hinf : P.info? T = some inf) (hsz : inf.size = 1) (hget : xs[i]? = some (.agg cs)) (ho : Nat.blt o e = true)
    (next : VO P C ops rest Q ⟨s.n, s.env, s.rows.set id (.own R e nl (fr && (f || c.scal)) (xs.set i (.agg (cs.set o c))))⟩) :
    VO P C ops (⟨none, .store T x y, ty, pos, af, none⟩ :: rest) Q s := by
  refine vo_unit (s1 := { s with rows := s.rows.set id (.own R e nl (fr && (f || c.scal)) (xs.set i (.agg (cs.set o c)))) }) (fun m a w hs => ?_) next
  obtain ⟨b, hv, hb, hid⟩ := hs.ptr hx
  have ho := blt_lt ho
  have hvy := hs.get y
  rw [hy] at hvy
  have hvy := hvy.pv_inv
  have hone := hvy.oneCell hna
  have hlive : liveAt s.rows id := ⟨_, hrow, rfl⟩
  have hi : i < xs.length := (List.getElem?_eq_some_iff.1 hget).1
  have hR := hs.rows id _ hrow
  generalize hmv : m id = v at *
  cases hR with
  | own v t' e nl fr xs vs hown h1 h2 hw hr =>
    have hvl : vs.length = xs.length * e := hown.1
    have hf := hw i _ hget
    have hcl : cs.length = e := hf.1
    rcases hown.2 with ⟨rfl, hn0⟩ | ⟨g, cap, cur, rfl, _, hh, hle, hmx, hcs, htk⟩
    · omega
    · simp only [MV.of, blk, Option.some.injEq] at hb
      have hgb : b = g := hb.symm
      subst hgb
      have hlt : i * e + o < xs.length * e := by
        have := Nat.mul_le_mul_right e (show i + 1 ≤ xs.length by omega)
        rw [Nat.add_mul] at this
        omega
      have hle2 : xs.length * e ≤ cap * e := Nat.mul_le_mul_right e hle
      have hcur : i * e + o < cur.size := by omega
      have hcell : w.cell? ⟨b, i * e + o, none⟩ = some cur[i * e + o] := by
        rw [cell_of_row w b _ cur R (0, 0) hh]; exact Array.getElem?_eq_getElem hcur
      have hfz : w.frozen? ⟨b, i * e + o, none⟩ = false := by simp [World.frozen?, hh]
      have hcells : (a.eval y).cells.toList = [a.eval y] := oneCell_cells hone
      have hcs1 : (a.eval y).cells.size = 1 := by
        have := congrArg List.length hcells
        simpa using this
      let w' := w.setCell ⟨b, i * e + o, none⟩ (a.eval y)
      have hst : (store (⟨b, i * e + o, none⟩ : Addr) (a.eval y)).run P w = .ok () w' := by
        rw [run_store P w _ _ _ hone, hcell]
        simp [hfz, w']
      have hheap' : w'.heap[b]? = some (.cells (cur.setIfInBounds (i * e + o) (a.eval y)) R (0, 0)) := heap_setCell_same w b (i * e + o) cur R _ hh
      have hg : w.grownBy w' (some b) := ⟨rfl, rfl, rfl, by simp [w', World.setCell], fun k _ hk => heap_setCell_other w ⟨b, i * e + o, none⟩ k _ (fun e => hk (by rw [e]))⟩
      refine ⟨w', m, ?_, ?_⟩
      · have hadd : (⟨b, i * e + o, none⟩ : Addr).add 0 = ⟨b, i * e + o, none⟩ := rfl
        simp [execOp, Instr.storeAt, hv, Instr.sureAddr, storeVar, sizeOf, typeInfo, hinf, hsz, hcs1, hcells, storeCells, hadd, hst]
      · refine hs.storeRow hlive (fun b' e => by cases e; rw [hmv]; rfl) hg _ (fun hG => ?_)
        rw [hmv]
        have hcomb : ∀ b, Gd C s.rows m w fr b → Gd C s.rows m w (fr && (f || c.scal)) b := by
          intro b hb
          cases hf1 : fr && (f || c.scal) with
          | false => exact hb.weak
          | true => simp only [Bool.and_eq_true] at hf1; rw [hf1.1] at hb; exact hb
        refine .own _ R e nl _ (xs.set i (.agg (cs.set o c))) (vs.set (i * e + o) (a.eval y)) ⟨by simp [hvl], .inr ⟨b, cap, _, by rw [List.length_set], Nat.zero_le _, hheap', by rw [List.length_set]; exact hle, hmx, by simp [hcs], ?_⟩⟩
          (fun h => by have := h1 h; simp at this) (fun _ h => by cases h) (fun k x hx => ?_) (fun k x j c' hx hc => ?_)
        · rw [List.length_set, Array.toList_setIfInBounds, List.take_set, htk]
        · rw [List.getElem?_set] at hx
          split at hx
          · cases hx
            refine ⟨by show (cs.set o c).length = e; simp [hcl], fun j c' hc' => ?_⟩
            change (cs.set o c)[j]? = some c' at hc'
            rw [List.getElem?_set] at hc'
            split at hc'
            · split at hc'
              · cases hc'; exact hna
              · cases hc'
            · exact hf.2 j c' hc'
          · exact hw k x hx
        · rw [List.getElem?_set] at hx
          split at hx
          · rename_i e1
            subst e1
            cases hx
            change (cs.set o c)[j]? = some c' at hc
            rw [List.getElem?_set] at hc
            split at hc
            · rename_i e2
              subst e2
              have hc : c = c' := by
                split at hc
                · cases hc; rfl
                · cases hc
              subst hc
              refine ⟨a.eval y, by rw [List.getElem?_set_self (by omega)], ?_⟩
              by_cases hsc : c.scal = true
              · exact hvy.scal_any hsc
              · refine hvy.mono fun b' hb' => hG _ _ ?_
                have hsc : c.scal = false := by simpa using hsc
                rw [hsc, Bool.or_false]
                cases fr with
                | false => exact hb'.weak
                | true => exact hb'
            · rename_i e2
              obtain ⟨u, hu, hp⟩ := hr i _ j c' hget hc
              have hjl : j < e := by rw [← hcl]; exact (List.getElem?_eq_some_iff.1 hc).1
              exact ⟨u, by rw [List.getElem?_set_ne (by omega)]; exact hu, hp.mono fun b' hb' => hG _ _ (hcomb _ hb')⟩
          · rename_i e1
            obtain ⟨u, hu, hp⟩ := hr k x j c' hx hc
            have hjl : j < e := by rw [← (hw k x hx).1]; exact (List.getElem?_eq_some_iff.1 hc).1
            have hne : i * e + o ≠ k * e + j := by
              intro h9
              have e2 : (i * e + o) / e = (k * e + j) / e := by rw [h9]
              rw [Nat.mul_comm i e, Nat.mul_comm k e, Nat.mul_add_div (by omega), Nat.mul_add_div (by omega), Nat.div_eq_of_lt hjl, Nat.div_eq_of_lt ho] at e2
              omega
            exact ⟨u, by rw [List.getElem?_set_ne hne]; exact hu, hp.mono fun b' hb' => hG _ _ (hcomb _ hb')⟩
end
end Go.Vl

/- The facts on the types of this translation that the rules ask for. -/
namespace Go.Vl
set_option linter.unusedVariables false
set_option linter.unusedSimpArgs false
open Go.Proofs
noncomputable def ti3 : TypeInfo := (Try.prog.info? 3).getD default
theorem inf3 : Try.prog.info? 3 = some ti3 := by kernel_rfl
theorem sz3 : ti3.size = 1 := by kernel_rfl
theorem by3 : ti3.bytes = 8 := by kernel_rfl
noncomputable def ti4 : TypeInfo := (Try.prog.info? 4).getD default
theorem inf4 : Try.prog.info? 4 = some ti4 := by kernel_rfl
theorem sz4 : ti4.size = 1 := by kernel_rfl
theorem by4 : ti4.bytes = 1 := by kernel_rfl
noncomputable def ti5 : TypeInfo := (Try.prog.info? 5).getD default
theorem inf5 : Try.prog.info? 5 = some ti5 := by kernel_rfl
theorem sz5 : ti5.size = 1 := by kernel_rfl
theorem by5 : ti5.bytes = 1 := by kernel_rfl
noncomputable def ti22 : TypeInfo := (Try.prog.info? 22).getD default
theorem inf22 : Try.prog.info? 22 = some ti22 := by kernel_rfl
theorem sz22 : ti22.size = 1 := by kernel_rfl
noncomputable def ti24 : TypeInfo := (Try.prog.info? 24).getD default
theorem inf24 : Try.prog.info? 24 = some ti24 := by kernel_rfl
theorem sz24 : ti24.size = 1 := by kernel_rfl
theorem by24 : ti24.bytes = 24 := by kernel_rfl
noncomputable def ti67 : TypeInfo := (Try.prog.info? 67).getD default
noncomputable def ti69 : TypeInfo := (Try.prog.info? 69).getD default
noncomputable def ti85 : TypeInfo := (Try.prog.info? 85).getD default
theorem inf85 : Try.prog.info? 85 = some ti85 := by kernel_rfl
theorem sz85 : ti85.size = 2 := by kernel_rfl
theorem by85 : ti85.bytes = 16 := by kernel_rfl
noncomputable def ti87 : TypeInfo := (Try.prog.info? 87).getD default
noncomputable def ti92 : TypeInfo := (Try.prog.info? 92).getD default
theorem E22 : ElInfo Try.prog 22 5 1 1 (.int .u8 0) :=
  ⟨Try.underlying22, ⟨ti5, (.int .u8 0), inf5, sz5, by5, by kernel_rfl, by kernel_rfl, fun _ _ => .int _ _⟩, fits_of rfl, by decide⟩
theorem E23 : ElInfo Try.prog 23 24 1 24 (.sl (some true) 1 []) :=
  ⟨Try.underlying23, ⟨ti24, (.slice none 0 0), inf24, sz24, by24, by kernel_rfl, by kernel_rfl, fun _ _ => .nilsl _ _ (by decide)⟩, fits_of rfl, by decide⟩
theorem E24 : ElInfo Try.prog 24 3 1 8 (.int .i64 0) :=
  ⟨Try.underlying24, ⟨ti3, (.int .i64 0), inf3, sz3, by3, by kernel_rfl, by kernel_rfl, fun _ _ => .int _ _⟩, fits_of rfl, by decide⟩
theorem E74 : ElInfo Try.prog 74 4 1 1 (.bool false) :=
  ⟨Try.underlying74, ⟨ti4, (.bool false), inf4, sz4, by4, by kernel_rfl, by kernel_rfl, fun _ _ => .bool _⟩, fits_of rfl, by decide⟩
theorem Z85 : StZ Try.prog 85 [(.int .i64 0), (.int .i64 0)] := by
  refine ⟨⟨_, Try.underlying85⟩, ti85, #[(.int .i64 0), (.int .i64 0)], inf85, sz85, by kernel_rfl, fun w G => .agg _ _ rfl ?_ ?_⟩
  · intro j c h
    match j, h with
    | 0, h => cases h; rfl
    | 1, h => cases h; rfl
  · intro j c u h hu
    match j, h, hu with
    | 0, h, hu => cases h; cases hu; exact .int _ _
    | 1, h, hu => cases h; cases hu; exact .int _ _
theorem E43 : ElInfo Try.prog 43 85 2 16 (.agg [(.int .i64 0), (.int .i64 0)]) := .of_struct Try.underlying43 Z85 (fun i h => by rw [inf85] at h; rw [← Option.some.inj h]; exact by85) (List.cons_ne_nil _ _)
theorem S85 : StInfo Try.prog 85 [(0, 1), (1, 1)] [(.int .i64 0), (.int .i64 0)] := by
  refine ⟨⟨_, Try.underlying85⟩, #[(.int .i64 0), (.int .i64 0)], fun l => by kernel_rfl, fun w G => .agg _ _ rfl ?_ ?_⟩
  · intro j c h
    match j, h with
    | 0, h => cases h; rfl
    | 1, h => cases h; rfl
  · intro j c u h hu
    match j, h, hu with
    | 0, h, hu => cases h; cases hu; exact .int _ _
    | 1, h, hu => cases h; cases hu; exact .int _ _
theorem S92 : StInfo Try.prog 92 [(0, 1), (1, 1)] [(.sl none 1 []), (.int .i64 0)] := by
  refine ⟨⟨_, Try.underlying92⟩, #[(.slice none 0 0), (.int .i64 0)], fun l => by kernel_rfl, fun w G => .agg _ _ rfl ?_ ?_⟩
  · intro j c h
    match j, h with
    | 0, h => cases h; rfl
    | 1, h => cases h; rfl
  · intro j c u h hu
    match j, h, hu with
    | 0, h, hu => cases h; cases hu; exact .nilsl _ _ (by decide)
    | 1, h, hu => cases h; cases hu; exact .int _ _
end Go.Vl

namespace Go.Vl
set_option linter.unusedVariables false
set_option linter.unusedSimpArgs false
open Go.Proofs
theorem rows_eq {α : Type} {el : TypeId} {e : Nat} {nl : Option Bool} {f : Bool} {g : α → PV} {a b : List α} (h : a = b) : [Row.own el e nl f (List.map g a)] = [Row.own el e nl f (List.map g b)] := by rw [h]
def findM (n : Int) : List Int → Int → Int
  | [], _ => -1
  | x :: xs, i => if x = n then i else findM n xs (i+1)

theorem findM_drop (n : Int) (l : List Int) (k : Nat) (h : k < l.length) : findM n (l.drop k) k = if l.getD k 0 = n then (k : Int) else findM n (l.drop (k+1)) (k+1) := by
  rw [List.drop_eq_getElem_cons h]
  simp [findM, List.getD, List.getElem?_eq_getElem h]

theorem findM_mem (n : Int) : ∀ (l : List Int) (k : Int), 0 ≤ k → (0 ≤ findM n l k ↔ n ∈ l)
  | [], k, _ => by simp [findM]
  | x :: xs, k, h => by
    by_cases hx : x = n
    · simp [findM, hx, h]
    · have := findM_mem n xs (k+1) (by omega)
      simp [findM, hx, Ne.symm hx, this]

theorem findM_not (n : Int) (l : List Int) (k : Int) (h : 0 ≤ k) : findM n l k < 0 ↔ n ∉ l := by
  rw [← findM_mem n l k h]; omega

theorem nodup_take_succ {α : Type} {l : List α} {k : Nat} (h : k < l.length) (d : α) : (l.take (k+1)).Nodup ↔ (l.take k).Nodup ∧ l.getD k d ∉ l.take k := by
  rw [List.take_succ_eq_append_getElem h, List.nodup_append]
  simp [List.getD, List.getElem?_eq_getElem h]
  intro _
  exact ⟨fun h1 h2 => h1 _ h2 rfl, fun h1 a ha e => h1 (e ▸ ha)⟩

theorem nodup_take {α : Type} {l : List α} (k : Nat) (h : l.Nodup) : (l.take k).Nodup := (List.take_sublist k l).nodup h

theorem all_take_succ {α : Type} {p : α → Prop} {l : List α} {k : Nat} (h : k < l.length) (d : α) : (∀ x ∈ l.take (k+1), p x) ↔ (∀ x ∈ l.take k, p x) ∧ p (l.getD k d) := by
  rw [List.take_succ_eq_append_getElem h]
  simp only [List.mem_append, List.mem_singleton, or_imp, forall_and, forall_eq, List.getD, List.getElem?_eq_getElem h, Option.getD_some]

theorem getD_mem {α : Type} {l : List α} {k : Nat} (h : k < l.length) (d : α) : l.getD k d ∈ l := by
  simp [List.getD, List.getElem?_eq_getElem h]

theorem take_all {α : Type} {l : List α} {k : Nat} (h : l.length ≤ k) : l.take k = l := List.take_of_length_le h
theorem bT {P : Prop} [Decidable P] (h : P) : true = decide P := (decide_eq_true h).symm
theorem bF {P : Prop} [Decidable P] (h : ¬ P) : false = decide P := (decide_eq_false h).symm
theorem lens {b : List (List Int)} {N : Nat} (h : ∀ l ∈ b, l.length < N) (k : Nat) (hN : 0 < N) : (b.getD k []).length < N := by
  by_cases hk : k < b.length
  · exact h _ (getD_mem hk [])
  · simp [List.getD, List.getElem?_eq_none (by omega : b.length ≤ k), hN]
/-- What can be the bases of a class. -/
def CB (l : List Int) (c : Int) : Prop := l ≠ [] ∧ l.length ≤ 4 ∧ l.Nodup ∧ ∀ x ∈ l, 0 ≤ x ∧ x ≤ c - 1
instance {l : List Int} {c : Int} : Decidable (CB l c) := by unfold CB; infer_instance
/-- Bases that are valid. -/
def VB (b : List (List Int)) : Prop := 1 ≤ b.length ∧ b.length ≤ 12 ∧ b.getD 0 [] = [] ∧ ∀ i, i < b.length → 0 < i → CB (b.getD i []) i
instance {b : List (List Int)} : Decidable (VB b) := by unfold VB; infer_instance
def RB0 (l : List Int) (i : Nat) : Prop := (l.length = 0 ↔ i = 0) ∧ l.length ≤ 4 ∧ l.Nodup ∧ ∀ x ∈ l, 0 ≤ x ∧ x ≤ (i : Int) - 1
theorem vb_iff (b : List (List Int)) : VB b ↔ (1 ≤ b.length ∧ b.length ≤ 12) ∧ ∀ i, i < b.length → RB0 (b.getD i []) i := by
  constructor
  · rintro ⟨h1, h2, h3, h4⟩
    refine ⟨⟨h1, h2⟩, fun i hi => ?_⟩
    rcases Nat.eq_zero_or_pos i with rfl | h0
    · rw [h3]; simp [RB0]
    · obtain ⟨c1, c2, c3, c4⟩ := h4 i hi h0
      exact ⟨⟨fun e => absurd (List.length_eq_zero_iff.1 e) c1, fun e => by omega⟩, c2, c3, c4⟩
  · rintro ⟨⟨h1, h2⟩, h⟩
    refine ⟨h1, h2, List.length_eq_zero_iff.1 ((h 0 (by omega)).1.2 rfl), fun i hi h0 => ?_⟩
    obtain ⟨c1, c2, c3, c4⟩ := h i hi
    exact ⟨fun e => by rw [e] at c1; simp at c1; omega, c2, c3, c4⟩
/-- Lists that can be merged or kept. -/
def OKL (l : List Int) (m : Int) : Prop := (l.length : Int) ≤ m ∧ l.Nodup
instance {l : List Int} {c : Int} : Decidable (OKL l c) := by unfold OKL; infer_instance
/-- Slots that are valid. -/
def VS (b s : List (List Int)) : Prop := VB b ∧ s.length = b.length ∧ s.getD 0 [] = [] ∧ ∀ l ∈ s, OKL l 4 ∧ ∀ x ∈ l, 0 ≤ x ∧ x ≤ 9
instance {b s : List (List Int)} : Decidable (VS b s) := by unfold VS; infer_instance

theorem placeIn_sat {nl0 : Option Bool} {list : List Int} {n : Int} (hlist : list.length < 1000000000)  : SatAt Try.prog 91 [.pv false (.sl nl0 1 (list.map intP)), i64 n] [] (fun res rows => res = [i64 (findM n list 0)] ∧ rows = []) := by
 refine sat_entry (ts := [4]) Try.func91 rfl rfl (by decide) (Nat.le_of_ble_eq_true rfl) fun C hC => ?_
 rw [Try.ntmps91]
 replace hC : C.nb = 0 := hC
 refine vc_seq fun K1 hK1 => ?_
 refine vc_region ?_
 refine vo_assign_pv rfl rfl ?_
 refine vo_nil ?_
 refine hK1 _ ?_
 refine vc_seq fun K2 hK2 => ?_
 refine vc_seq fun K3 hK3 => ?_
 refine vc_region ?_
 refine vo_assign_pv rfl rfl ?_
 refine vo_nil ?_
 refine hK3 _ ?_
 refine vc_block ?_
 refine vc_stN ?_
 refine vc_loopF [0, 1] [5] [.pv false (.sl nl0 1 (list.map intP)), i64 n] _ (fun mz vs => ∃ (k : Nat), mz = list.length - k ∧ (k ≤ list.length) ∧ (findM n list 0 = findM n (list.drop k) k) ∧ vs = [i64 k]) (list.length) rfl rfl (le_len hC rfl) ⟨rfl, rfl, rfl⟩ ⟨0, rfl, Nat.zero_le _, rfl, rfl⟩ ?_
 rintro mz vs - ⟨k, rfl, hk, hf, rfl⟩
 refine vc_stN ?_
 refine vc_seq fun K4 hK4 => ?_
 refine vc_seq fun K5 hK5 => ?_
 refine vc_region ?_
 refine vo_move_pv rfl rfl ?_
 refine vo_move_pv rfl rfl ?_
 refine vo_len_pv rfl rfl Try.underlying24 ?_
 refine vo_binI rfl rfl rfl rfl trivial ?_
 refine vo_nil ?_
 refine hK5 _ ?_
 refine vc_cond rfl (fun hc1 => ?_) (fun hc1 => ?_)
 ·try simp only [zq0, zq1, zq2, zq3, zq4, zq5, zq6, zq7, zq8, zq9, zqa, zqb, zqc, zqd, zqe, zqf] at hc1
  refine vc_skip ?_
  refine hK4 _ ?_
  refine vc_seq fun K6 hK6 => ?_
  refine vc_block ?_
  refine vc_seq fun K7 hK7 => ?_
  refine vc_region ?_
  refine vo_move_pv rfl rfl ?_
  refine vo_move_pv rfl rfl ?_
  refine vo_index_pv (.int .i64 0) rfl rfl rfl E24.und inf3 sz3 sd sd ?_
  simp only [Int.toNat_natCast, Int.toNat_zero, getD_ints, getD_intss, getD_bools, getD_bytes, PV.cells]
  refine vo_load_adr rfl rfl Try.underlying3 rfl ?_
  refine vo_move_pv rfl rfl ?_
  refine vo_binI rfl rfl rfl rfl trivial ?_
  refine vo_nil ?_
  refine hK7 _ ?_
  refine vc_cond rfl (fun hc2 => ?_) (fun hc2 => ?_)
  ·try simp only [zq0, zq1, zq2, zq3, zq4, zq5, zq6, zq7, zq8, zq9, zqa, zqb, zqc, zqd, zqe, zqf] at hc2
   refine vc_seq fun K8 hK8 => ?_
   refine vc_region ?_
   refine vo_move_pv rfl rfl ?_
   refine vo_assign_pv rfl rfl ?_
   refine vo_nil ?_
   refine hK8 _ ?_
   refine vc_ret ?_
   change retPv _ _ _ _ _
   refine retPv_mk rfl rfl rfl ⟨?_, rfl⟩
   refine (congrArg (fun b => [i64 b]) (?_ : _ = _) : [i64 _] = [i64 _])
   rw [hf, findM_drop _ _ _ (by omega), if_pos (by omega)]
  ·try simp only [zq0, zq1, zq2, zq3, zq4, zq5, zq6, zq7, zq8, zq9, zqa, zqb, zqc, zqd, zqe, zqf] at hc2
   refine vc_skip ?_
   refine hK6 _ ?_
   refine vc_region ?_
   refine vo_move_pv rfl rfl ?_
   refine vo_binI rfl rfl rfl rfl sd ?_
   refine vo_assign_pv rfl rfl ?_
   refine vo_nil ?_
   change againF _ _ _ _ _ _ _ _ _
   refine againF_mk rfl rfl rfl rfl rfl rfl ⟨_, ?_, k + 1, rfl, ?_, ?_, rfl⟩
   ·omega
   ·omega
   ·rw [hf, findM_drop _ _ _ (by omega), if_neg (by omega)]; rfl
 ·try simp only [zq0, zq1, zq2, zq3, zq4, zq5, zq6, zq7, zq8, zq9, zqa, zqb, zqc, zqd, zqe, zqf] at hc1
  refine vc_exit ?_
  refine hK2 _ ?_
  refine vc_seq fun K9 hK9 => ?_
  refine vc_region ?_
  refine vo_assign_pv rfl rfl ?_
  refine vo_nil ?_
  refine hK9 _ ?_
  refine vc_ret ?_
  change retPv _ _ _ _ _
  refine retPv_mk rfl rfl rfl ⟨?_, rfl⟩
  refine (congrArg (fun b => [i64 b]) (?_ : _ = _) : [i64 _] = [i64 _])
  rw [hf, show k = list.length by omega, List.drop_length]; rfl


theorem different_sat {nl0 : Option Bool} {list : List Int} (hlist : list.length < 1000000000)  : SatAt Try.prog 89 [.pv false (.sl nl0 1 (list.map intP))] [] (fun res rows => res = [bo (decide (list.Nodup))] ∧ rows = []) := by
 refine sat_entry (ts := [2]) Try.func89 rfl rfl (by decide) (Nat.le_of_ble_eq_true rfl) fun C hC => ?_
 rw [Try.ntmps89]
 replace hC : C.nb = 0 := hC
 refine vc_seq fun K1 hK1 => ?_
 refine vc_region ?_
 refine vo_assign_pv rfl rfl ?_
 refine vo_nil ?_
 refine hK1 _ ?_
 refine vc_seq fun K2 hK2 => ?_
 refine vc_seq fun K3 hK3 => ?_
 refine vc_region ?_
 refine vo_assign_pv rfl rfl ?_
 refine vo_nil ?_
 refine hK3 _ ?_
 refine vc_block ?_
 refine vc_stN ?_
 refine vc_loopF [0] [3] [.pv false (.sl nl0 1 (list.map intP))] _ (fun mz vs => ∃ (k : Nat), mz = list.length - k ∧ (k ≤ list.length) ∧ ((list.take k).Nodup) ∧ vs = [i64 k]) (list.length) rfl rfl (le_len hC rfl) ⟨rfl, rfl, rfl⟩ ⟨0, rfl, Nat.zero_le _, List.nodup_nil, rfl⟩ ?_
 rintro mz vs - ⟨k, rfl, hk, hf, rfl⟩
 refine vc_stN ?_
 refine vc_seq fun K4 hK4 => ?_
 refine vc_seq fun K5 hK5 => ?_
 refine vc_region ?_
 refine vo_move_pv rfl rfl ?_
 refine vo_move_pv rfl rfl ?_
 refine vo_len_pv rfl rfl Try.underlying24 ?_
 refine vo_binI rfl rfl rfl rfl trivial ?_
 refine vo_nil ?_
 refine hK5 _ ?_
 refine vc_cond rfl (fun hc1 => ?_) (fun hc1 => ?_)
 ·try simp only [zq0, zq1, zq2, zq3, zq4, zq5, zq6, zq7, zq8, zq9, zqa, zqb, zqc, zqd, zqe, zqf] at hc1
  refine vc_skip ?_
  refine hK4 _ ?_
  refine vc_seq fun K6 hK6 => ?_
  refine vc_block ?_
  refine vc_seq fun K7 hK7 => ?_
  refine vc_draw (by kernel_rfl) ?_
  change VD _ _ _ 9 _ _ _
  refine vd_light 0 rfl rfl rfl (by kernel_rfl) (by kernel_rfl) (by kernel_rfl) (wnt_none rfl) (lt_move_pv rfl) ?_
  refine vd_light 1 rfl rfl rfl (by kernel_rfl) (by kernel_rfl) (by kernel_rfl) (wnt_none rfl) (lt_move_pv rfl) ?_
  refine vd_light 2 rfl rfl rfl (by kernel_rfl) (by kernel_rfl) (by kernel_rfl) (wnt_none rfl) (lt_slice_pv rfl rfl rfl E24.und inf3 sz3 sd sd sd) ?_
  simp only [Int.toNat_natCast, Int.toNat_zero, List.drop_zero, Nat.sub_zero, ← List.map_drop, ← List.map_take]
  refine vd_light 3 rfl rfl rfl (by kernel_rfl) (by kernel_rfl) (by kernel_rfl) (wnt_none rfl) (lt_move_pv rfl) ?_
  refine vd_light 4 rfl rfl rfl (by kernel_rfl) (by kernel_rfl) (by kernel_rfl) (wnt_none rfl) (lt_move_pv rfl) ?_
  refine vd_light 5 rfl rfl rfl (by kernel_rfl) (by kernel_rfl) (by kernel_rfl) (wnt_none rfl) (lt_index_pv (.int .i64 0) rfl rfl E24.und inf3 sz3 sd sd) ?_
  simp only [Int.toNat_natCast, Int.toNat_zero, getD_ints, getD_intss, getD_bools, getD_bytes, PV.cells]
  refine vd_light 6 rfl rfl rfl (by kernel_rfl) (by kernel_rfl) (by kernel_rfl) (wnt_none rfl) (lt_load_adr rfl Try.underlying3 rfl) ?_
  refine vd_call 7 rfl (by kernel_rfl) (wnt_none rfl) Try.func91 rfl rfl rfl rfl (placeIn_sat (by simp; omega)) ?_
  rintro _ _ ⟨rfl, rfl⟩
  refine ⟨rfl, rfl, .inl rfl, ?_⟩
  refine vd_light 8 rfl rfl rfl (by kernel_rfl) (by kernel_rfl) (by kernel_rfl) (wnt_none rfl) (lt_binI rfl rfl rfl trivial) ?_
  refine vd_nil (by kernel_rfl) ?_
  refine hK7 _ ?_
  refine vc_cond rfl (fun hc2 => ?_) (fun hc2 => ?_)
  ·try simp only [zq0, zq1, zq2, zq3, zq4, zq5, zq6, zq7, zq8, zq9, zqa, zqb, zqc, zqd, zqe, zqf] at hc2
   refine vc_seq fun K8 hK8 => ?_
   refine vc_region ?_
   refine vo_assign_pv rfl rfl ?_
   refine vo_nil ?_
   refine hK8 _ ?_
   refine vc_ret ?_
   change retPv _ _ _ _ _
   refine retPv_mk rfl rfl rfl ⟨?_, rfl⟩
   refine (congrArg (fun b => [bo b]) (?_ : _ = _) : [bo _] = [bo _])
   exact bF fun h => ((nodup_take_succ (by omega) 0).1 (nodup_take (k+1) h)).2 ((findM_mem _ _ _ (by omega)).1 hc2)
  ·try simp only [zq0, zq1, zq2, zq3, zq4, zq5, zq6, zq7, zq8, zq9, zqa, zqb, zqc, zqd, zqe, zqf] at hc2
   refine vc_skip ?_
   refine hK6 _ ?_
   refine vc_region ?_
   refine vo_move_pv rfl rfl ?_
   refine vo_binI rfl rfl rfl rfl sd ?_
   refine vo_assign_pv rfl rfl ?_
   refine vo_nil ?_
   change againF _ _ _ _ _ _ _ _ _
   refine againF_mk rfl rfl rfl rfl rfl rfl ⟨_, ?_, k + 1, rfl, ?_, ?_, rfl⟩
   ·omega
   ·omega
   ·exact (nodup_take_succ (by omega) 0).2 ⟨hf, (findM_not _ _ _ (by omega)).1 hc2⟩
 ·try simp only [zq0, zq1, zq2, zq3, zq4, zq5, zq6, zq7, zq8, zq9, zqa, zqb, zqc, zqd, zqe, zqf] at hc1
  refine vc_exit ?_
  refine hK2 _ ?_
  refine vc_seq fun K9 hK9 => ?_
  refine vc_region ?_
  refine vo_assign_pv rfl rfl ?_
  refine vo_nil ?_
  refine hK9 _ ?_
  refine vc_ret ?_
  change retPv _ _ _ _ _
  refine retPv_mk rfl rfl rfl ⟨?_, rfl⟩
  refine (congrArg (fun b => [bo b]) (?_ : _ = _) : [bo _] = [bo _])
  rw [take_all (by omega)] at hf; exact bT hf


theorem inRange_sat {n : Int} {low : Int} {high : Int}   : SatAt Try.prog 58 [i64 n, i64 low, i64 high] [] (fun res rows => res = [bo (decide (low ≤ n ∧ n ≤ high))] ∧ rows = []) := by
 refine sat_entry (ts := [6]) Try.func58 rfl rfl (by decide) (Nat.le_of_ble_eq_true rfl) fun C hC => ?_
 rw [Try.ntmps58]
 replace hC : C.nb = 0 := hC
 refine vc_seq fun K1 hK1 => ?_
 refine vc_region ?_
 refine vo_assign_pv rfl rfl ?_
 refine vo_nil ?_
 refine hK1 _ ?_
 refine vc_seq fun K2 hK2 => ?_
 refine vc_region ?_
 refine vo_move_pv rfl rfl ?_
 refine vo_move_pv rfl rfl ?_
 refine vo_binI rfl rfl rfl rfl trivial ?_
 refine vo_move_pv rfl rfl ?_
 refine vo_split 10 rfl (fun hg1 => ?_) (fun hg1 => ?_)
 ·try simp only [zq0, zq1, zq2, zq3, zq4, zq5, zq6, zq7, zq8, zq9, zqa, zqb, zqc, zqd, zqe, zqf] at hg1
  refine vo_guard_on rfl rfl rfl ?_
  refine vo_move_pv rfl rfl ?_
  refine vo_guard_on rfl rfl rfl ?_
  refine vo_move_pv rfl rfl ?_
  refine vo_guard_on rfl rfl rfl ?_
  refine vo_binI rfl rfl rfl rfl trivial ?_
  refine vo_pick_t rfl rfl ?_
  refine vo_assign_pv rfl rfl ?_
  refine vo_nil ?_
  refine hK2 _ ?_
  refine vc_ret ?_
  change retPv _ _ _ _ _
  refine retPv_mk rfl rfl rfl ⟨?_, rfl⟩
  refine (congrArg (fun b => [bo b]) (?_ : _ = _) : [bo _] = [bo _])
  simp_all <;> omega
 ·try simp only [zq0, zq1, zq2, zq3, zq4, zq5, zq6, zq7, zq8, zq9, zqa, zqb, zqc, zqd, zqe, zqf] at hg1
  refine vo_guard_off rfl rfl rfl rfl rfl ?_
  refine vo_guard_off rfl rfl rfl rfl rfl ?_
  refine vo_guard_off rfl rfl rfl rfl rfl ?_
  refine vo_pick_f rfl rfl ?_
  refine vo_assign_pv rfl rfl ?_
  refine vo_nil ?_
  refine hK2 _ ?_
  refine vc_ret ?_
  change retPv _ _ _ _ _
  refine retPv_mk rfl rfl rfl ⟨?_, rfl⟩
  refine (congrArg (fun b => [bo b]) (?_ : _ = _) : [bo _] = [bo _])
  simp_all <;> omega


theorem allIn_sat {nl0 : Option Bool} {list : List Int} {low : Int} {high : Int} (hlist : list.length < 1000000000)  : SatAt Try.prog 59 [.pv false (.sl nl0 1 (list.map intP)), i64 low, i64 high] [] (fun res rows => res = [bo (decide (∀ x ∈ list, low ≤ x ∧ x ≤ high))] ∧ rows = []) := by
 refine sat_entry (ts := [6]) Try.func59 rfl rfl (by decide) (Nat.le_of_ble_eq_true rfl) fun C hC => ?_
 rw [Try.ntmps59]
 replace hC : C.nb = 0 := hC
 refine vc_seq fun K1 hK1 => ?_
 refine vc_region ?_
 refine vo_assign_pv rfl rfl ?_
 refine vo_nil ?_
 refine hK1 _ ?_
 refine vc_seq fun K2 hK2 => ?_
 refine vc_seq fun K3 hK3 => ?_
 refine vc_region ?_
 refine vo_assign_pv rfl rfl ?_
 refine vo_nil ?_
 refine hK3 _ ?_
 refine vc_block ?_
 refine vc_stN ?_
 refine vc_loopF [0, 1, 2] [7] [.pv false (.sl nl0 1 (list.map intP)), i64 low, i64 high] _ (fun mz vs => ∃ (k : Nat), mz = list.length - k ∧ (k ≤ list.length) ∧ (∀ x ∈ list.take k, low ≤ x ∧ x ≤ high) ∧ vs = [i64 k]) (list.length) rfl rfl (le_len hC rfl) ⟨rfl, rfl, rfl⟩ ⟨0, rfl, Nat.zero_le _, (by simp), rfl⟩ ?_
 rintro mz vs - ⟨k, rfl, hk, hf, rfl⟩
 refine vc_stN ?_
 refine vc_seq fun K4 hK4 => ?_
 refine vc_seq fun K5 hK5 => ?_
 refine vc_region ?_
 refine vo_move_pv rfl rfl ?_
 refine vo_move_pv rfl rfl ?_
 refine vo_len_pv rfl rfl Try.underlying24 ?_
 refine vo_binI rfl rfl rfl rfl trivial ?_
 refine vo_nil ?_
 refine hK5 _ ?_
 refine vc_cond rfl (fun hc1 => ?_) (fun hc1 => ?_)
 ·try simp only [zq0, zq1, zq2, zq3, zq4, zq5, zq6, zq7, zq8, zq9, zqa, zqb, zqc, zqd, zqe, zqf] at hc1
  refine vc_skip ?_
  refine hK4 _ ?_
  refine vc_seq fun K6 hK6 => ?_
  refine vc_block ?_
  refine vc_seq fun K7 hK7 => ?_
  refine vc_region ?_
  refine vo_move_pv rfl rfl ?_
  refine vo_move_pv rfl rfl ?_
  refine vo_index_pv (.int .i64 0) rfl rfl rfl E24.und inf3 sz3 sd sd ?_
  simp only [Int.toNat_natCast, Int.toNat_zero, getD_ints, getD_intss, getD_bools, getD_bytes, PV.cells]
  refine vo_load_adr rfl rfl Try.underlying3 rfl ?_
  refine vo_move_pv rfl rfl ?_
  refine vo_move_pv rfl rfl ?_
  refine vo_call0 Try.func58 rfl rfl rfl rfl inRange_sat ?_
  rintro _ _ ⟨rfl, rfl⟩
  refine ⟨rfl, rfl, .inl rfl, ?_⟩
  refine vo_not rfl rfl ?_
  refine vo_nil ?_
  refine hK7 _ ?_
  refine vc_cond rfl (fun hc2 => ?_) (fun hc2 => ?_)
  ·try simp only [zq0, zq1, zq2, zq3, zq4, zq5, zq6, zq7, zq8, zq9, zqa, zqb, zqc, zqd, zqe, zqf] at hc2
   refine vc_seq fun K8 hK8 => ?_
   refine vc_region ?_
   refine vo_assign_pv rfl rfl ?_
   refine vo_nil ?_
   refine hK8 _ ?_
   refine vc_ret ?_
   change retPv _ _ _ _ _
   refine retPv_mk rfl rfl rfl ⟨?_, rfl⟩
   refine (congrArg (fun b => [bo b]) (?_ : _ = _) : [bo _] = [bo _])
   refine bF fun h => ?_
   have h1 := h _ (getD_mem (show k < list.length by omega) 0)
   simp_all
  ·try simp only [zq0, zq1, zq2, zq3, zq4, zq5, zq6, zq7, zq8, zq9, zqa, zqb, zqc, zqd, zqe, zqf] at hc2
   refine vc_skip ?_
   refine hK6 _ ?_
   refine vc_region ?_
   refine vo_move_pv rfl rfl ?_
   refine vo_binI rfl rfl rfl rfl sd ?_
   refine vo_assign_pv rfl rfl ?_
   refine vo_nil ?_
   change againF _ _ _ _ _ _ _ _ _
   refine againF_mk rfl rfl rfl rfl rfl rfl ⟨_, ?_, k + 1, rfl, ?_, ?_, rfl⟩
   ·omega
   ·omega
   ·exact (all_take_succ (by omega) 0).2 ⟨hf, by simpa using hc2⟩
 ·try simp only [zq0, zq1, zq2, zq3, zq4, zq5, zq6, zq7, zq8, zq9, zqa, zqb, zqc, zqd, zqe, zqf] at hc1
  refine vc_exit ?_
  refine hK2 _ ?_
  refine vc_seq fun K9 hK9 => ?_
  refine vc_region ?_
  refine vo_assign_pv rfl rfl ?_
  refine vo_nil ?_
  refine hK9 _ ?_
  refine vc_ret ?_
  change retPv _ _ _ _ _
  refine retPv_mk rfl rfl rfl ⟨?_, rfl⟩
  refine (congrArg (fun b => [bo b]) (?_ : _ = _) : [bo _] = [bo _])
  rw [take_all (by omega)] at hf; exact bT hf


theorem specValidBases0_sat {nl0 : Option Bool} {bases : List (List Int)} (hbases : bases.length < 1000000000) (hlbases : ∀ l ∈ bases, l.length < 1000000000)  : SatAt Try.prog 57 [.pv false (.sl nl0 1 (bases.map ints))] [] (fun res rows => res = [bo (decide (VB bases))] ∧ rows = []) := by
 refine sat_entry (ts := [2]) Try.func57 rfl rfl (by decide) (Nat.le_of_ble_eq_true rfl) fun C hC => ?_
 rw [Try.ntmps57]
 replace hC : C.nb = 0 := hC
 refine vc_seq fun K1 hK1 => ?_
 refine vc_region ?_
 refine vo_assign_pv rfl rfl ?_
 refine vo_nil ?_
 refine hK1 _ ?_
 refine vc_seq fun K2 hK2 => ?_
 refine vc_seq fun K3 hK3 => ?_
 refine vc_region ?_
 refine vo_assign_pv rfl rfl ?_
 refine vo_nil ?_
 refine hK3 _ ?_
 refine vc_block ?_
 refine vc_stN ?_
 refine vc_loopF [0] [3] [.pv false (.sl nl0 1 (bases.map ints))] _ (fun mz vs => ∃ (k : Nat), mz = bases.length - k ∧ (k ≤ bases.length) ∧ (∀ i, i < k → RB0 (bases.getD i []) i) ∧ vs = [i64 k]) (bases.length) rfl rfl (le_len hC rfl) ⟨rfl, rfl, rfl⟩ ⟨0, rfl, Nat.zero_le _, (fun i h1 => by omega), rfl⟩ ?_
 rintro mz vs - ⟨k, rfl, hk, hf, rfl⟩
 refine vc_stN ?_
 refine vc_seq fun K4 hK4 => ?_
 refine vc_seq fun K5 hK5 => ?_
 refine vc_region ?_
 refine vo_move_pv rfl rfl ?_
 refine vo_move_pv rfl rfl ?_
 refine vo_len_pv rfl rfl Try.underlying23 ?_
 refine vo_binI rfl rfl rfl rfl trivial ?_
 refine vo_nil ?_
 refine hK5 _ ?_
 refine vc_cond rfl (fun hc1 => ?_) (fun hc1 => ?_)
 ·try simp only [zq0, zq1, zq2, zq3, zq4, zq5, zq6, zq7, zq8, zq9, zqa, zqb, zqc, zqd, zqe, zqf] at hc1
  refine vc_skip ?_
  refine hK4 _ ?_
  refine vc_seq fun K6 hK6 => ?_
  refine vc_block ?_
  refine vc_seq fun K7 hK7 => ?_
  refine vc_region ?_
  refine vo_move_pv rfl rfl ?_
  refine vo_move_pv rfl rfl ?_
  refine vo_index_pv (.sl none 1 []) rfl rfl rfl E23.und inf24 sz24 sd sd ?_
  simp only [Int.toNat_natCast, Int.toNat_zero, getD_ints, getD_intss, getD_bools, getD_bytes, PV.cells]
  refine vo_load_adr rfl rfl Try.underlying24 rfl ?_
  refine vo_len_pv rfl rfl Try.underlying24 ?_
  refine vo_binI rfl rfl rfl rfl trivial ?_
  refine vo_move_pv rfl rfl ?_
  refine vo_binI rfl rfl rfl rfl trivial ?_
  refine vo_binB rfl rfl rfl rfl Try.underlying4 ?_
  refine vo_move_pv rfl rfl ?_
  refine vo_split 19 rfl (fun hg2 => ?_) (fun hg2 => ?_)
  ·try simp only [zq0, zq1, zq2, zq3, zq4, zq5, zq6, zq7, zq8, zq9, zqa, zqb, zqc, zqd, zqe, zqf] at hg2
   rw [Bool.eq_iff_iff, beq_iff_eq, beq_iff_eq] at hg2
   refine vo_guard_off rfl rfl rfl rfl rfl ?_
   refine vo_guard_off rfl rfl rfl rfl rfl ?_
   refine vo_guard_off rfl rfl rfl rfl rfl ?_
   refine vo_guard_off rfl rfl rfl rfl rfl ?_
   refine vo_guard_off rfl rfl rfl rfl rfl ?_
   refine vo_guard_off rfl rfl rfl rfl rfl ?_
   refine vo_pick_t rfl rfl ?_
   refine vo_move_pv rfl rfl ?_
   refine vo_guard_off rfl rfl rfl rfl rfl ?_
   refine vo_guard_off rfl rfl rfl rfl rfl ?_
   refine vo_guard_off rfl rfl rfl rfl rfl ?_
   refine vo_guard_off rfl rfl rfl rfl rfl ?_
   refine vo_guard_off rfl rfl rfl rfl rfl ?_
   refine vo_guard_off rfl rfl rfl rfl rfl ?_
   refine vo_pick_t rfl rfl ?_
   refine vo_move_pv rfl rfl ?_
   refine vo_guard_off rfl rfl rfl rfl rfl ?_
   refine vo_guard_off rfl rfl rfl rfl rfl ?_
   refine vo_guard_off rfl rfl rfl rfl rfl ?_
   refine vo_guard_off rfl rfl rfl rfl rfl ?_
   refine vo_guard_off rfl rfl rfl rfl rfl ?_
   refine vo_guard_off rfl rfl rfl rfl rfl ?_
   refine vo_guard_off rfl rfl rfl rfl rfl ?_
   refine vo_guard_off rfl rfl rfl rfl rfl ?_
   refine vo_pick_t rfl rfl ?_
   refine vo_nil ?_
   refine hK7 _ ?_
   refine vc_cond_t rfl ?_
   refine vc_seq fun K8 hK8 => ?_
   refine vc_region ?_
   refine vo_assign_pv rfl rfl ?_
   refine vo_nil ?_
   refine hK8 _ ?_
   refine vc_ret ?_
   change retPv _ _ _ _ _
   refine retPv_mk rfl rfl rfl ⟨?_, rfl⟩
   refine (congrArg (fun b => [bo b]) (?_ : _ = _) : [bo _] = [bo _])
   exact bF fun h => by have := (((vb_iff _).1 h).2 k (by omega)).1; omega
  ·try simp only [zq0, zq1, zq2, zq3, zq4, zq5, zq6, zq7, zq8, zq9, zqa, zqb, zqc, zqd, zqe, zqf] at hg2
   rw [Bool.eq_iff_iff, beq_iff_eq, beq_iff_eq] at hg2
   refine vo_guard_on rfl rfl rfl ?_
   refine vo_move_pv rfl rfl ?_
   refine vo_guard_on rfl rfl rfl ?_
   refine vo_move_pv rfl rfl ?_
   refine vo_guard_on rfl rfl rfl ?_
   refine vo_index_pv (.sl none 1 []) rfl rfl rfl E23.und inf24 sz24 sd sd ?_
   simp only [Int.toNat_natCast, Int.toNat_zero, getD_ints, getD_intss, getD_bools, getD_bytes, PV.cells]
   refine vo_guard_on rfl rfl rfl ?_
   refine vo_load_adr rfl rfl Try.underlying24 rfl ?_
   refine vo_guard_on rfl rfl rfl ?_
   refine vo_len_pv rfl rfl Try.underlying24 ?_
   refine vo_guard_on rfl rfl rfl ?_
   refine vo_binI rfl rfl rfl rfl trivial ?_
   refine vo_pick_f rfl rfl ?_
   refine vo_move_pv rfl rfl ?_
   refine vo_split 27 rfl (fun hg3 => ?_) (fun hg3 => ?_)
   ·try simp only [zq0, zq1, zq2, zq3, zq4, zq5, zq6, zq7, zq8, zq9, zqa, zqb, zqc, zqd, zqe, zqf] at hg3
    refine vo_guard_off rfl rfl rfl rfl rfl ?_
    refine vo_guard_off rfl rfl rfl rfl rfl ?_
    refine vo_guard_off rfl rfl rfl rfl rfl ?_
    refine vo_guard_off rfl rfl rfl rfl rfl ?_
    refine vo_guard_off rfl rfl rfl rfl rfl ?_
    refine vo_guard_off rfl rfl rfl rfl rfl ?_
    refine vo_pick_t rfl rfl ?_
    refine vo_move_pv rfl rfl ?_
    refine vo_guard_off rfl rfl rfl rfl rfl ?_
    refine vo_guard_off rfl rfl rfl rfl rfl ?_
    refine vo_guard_off rfl rfl rfl rfl rfl ?_
    refine vo_guard_off rfl rfl rfl rfl rfl ?_
    refine vo_guard_off rfl rfl rfl rfl rfl ?_
    refine vo_guard_off rfl rfl rfl rfl rfl ?_
    refine vo_guard_off rfl rfl rfl rfl rfl ?_
    refine vo_guard_off rfl rfl rfl rfl rfl ?_
    refine vo_pick_t rfl rfl ?_
    refine vo_nil ?_
    refine hK7 _ ?_
    refine vc_cond_t rfl ?_
    refine vc_seq fun K9 hK9 => ?_
    refine vc_region ?_
    refine vo_assign_pv rfl rfl ?_
    refine vo_nil ?_
    refine hK9 _ ?_
    refine vc_ret ?_
    change retPv _ _ _ _ _
    refine retPv_mk rfl rfl rfl ⟨?_, rfl⟩
    refine (congrArg (fun b => [bo b]) (?_ : _ = _) : [bo _] = [bo _])
    exact bF fun h => by have := (((vb_iff _).1 h).2 k (by omega)).2.1; omega
   ·try simp only [zq0, zq1, zq2, zq3, zq4, zq5, zq6, zq7, zq8, zq9, zqa, zqb, zqc, zqd, zqe, zqf] at hg3
    refine vo_guard_on rfl rfl rfl ?_
    refine vo_move_pv rfl rfl ?_
    refine vo_guard_on rfl rfl rfl ?_
    refine vo_move_pv rfl rfl ?_
    refine vo_guard_on rfl rfl rfl ?_
    refine vo_index_pv (.sl none 1 []) rfl rfl rfl E23.und inf24 sz24 sd sd ?_
    simp only [Int.toNat_natCast, Int.toNat_zero, getD_ints, getD_intss, getD_bools, getD_bytes, PV.cells]
    refine vo_guard_on rfl rfl rfl ?_
    refine vo_load_adr rfl rfl Try.underlying24 rfl ?_
    refine vo_guard_on rfl rfl rfl ?_
    refine vo_call0 Try.func89 rfl rfl rfl rfl (different_sat (lens hlbases _ (by omega))) ?_
    rintro _ _ ⟨rfl, rfl⟩
    refine ⟨rfl, rfl, .inl rfl, ?_⟩
    refine vo_guard_on rfl rfl rfl ?_
    refine vo_not rfl rfl ?_
    refine vo_pick_f rfl rfl ?_
    refine vo_move_pv rfl rfl ?_
    refine vo_split 35 rfl (fun hg4 => ?_) (fun hg4 => ?_)
    ·try simp only [zq0, zq1, zq2, zq3, zq4, zq5, zq6, zq7, zq8, zq9, zqa, zqb, zqc, zqd, zqe, zqf] at hg4
     refine vo_guard_off rfl rfl rfl rfl rfl ?_
     refine vo_guard_off rfl rfl rfl rfl rfl ?_
     refine vo_guard_off rfl rfl rfl rfl rfl ?_
     refine vo_guard_off rfl rfl rfl rfl rfl ?_
     refine vo_guard_off rfl rfl rfl rfl rfl ?_
     refine vo_guard_off rfl rfl rfl rfl rfl ?_
     refine vo_guard_off rfl rfl rfl rfl rfl ?_
     refine vo_guard_off rfl rfl rfl rfl rfl ?_
     refine vo_pick_t rfl rfl ?_
     refine vo_nil ?_
     refine hK7 _ ?_
     refine vc_cond_t rfl ?_
     refine vc_seq fun K10 hK10 => ?_
     refine vc_region ?_
     refine vo_assign_pv rfl rfl ?_
     refine vo_nil ?_
     refine hK10 _ ?_
     refine vc_ret ?_
     change retPv _ _ _ _ _
     refine retPv_mk rfl rfl rfl ⟨?_, rfl⟩
     refine (congrArg (fun b => [bo b]) (?_ : _ = _) : [bo _] = [bo _])
     exact bF fun h => hg4 (((vb_iff _).1 h).2 k (by omega)).2.2.1
    ·try simp only [zq0, zq1, zq2, zq3, zq4, zq5, zq6, zq7, zq8, zq9, zqa, zqb, zqc, zqd, zqe, zqf] at hg4
     refine vo_guard_on rfl rfl rfl ?_
     refine vo_move_pv rfl rfl ?_
     refine vo_guard_on rfl rfl rfl ?_
     refine vo_move_pv rfl rfl ?_
     refine vo_guard_on rfl rfl rfl ?_
     refine vo_index_pv (.sl none 1 []) rfl rfl rfl E23.und inf24 sz24 sd sd ?_
     simp only [Int.toNat_natCast, Int.toNat_zero, getD_ints, getD_intss, getD_bools, getD_bytes, PV.cells]
     refine vo_guard_on rfl rfl rfl ?_
     refine vo_load_adr rfl rfl Try.underlying24 rfl ?_
     refine vo_guard_on rfl rfl rfl ?_
     refine vo_move_pv rfl rfl ?_
     refine vo_guard_on rfl rfl rfl ?_
     refine vo_binI rfl rfl rfl rfl sd ?_
     refine vo_guard_on rfl rfl rfl ?_
     refine vo_call0 Try.func59 rfl rfl rfl rfl (allIn_sat (lens hlbases _ (by omega))) ?_
     rintro _ _ ⟨rfl, rfl⟩
     refine ⟨rfl, rfl, .inl rfl, ?_⟩
     refine vo_guard_on rfl rfl rfl ?_
     refine vo_not rfl rfl ?_
     refine vo_pick_f rfl rfl ?_
     refine vo_nil ?_
     refine hK7 _ ?_
     refine vc_cond rfl (fun hc5 => ?_) (fun hc5 => ?_)
     ·try simp only [zq0, zq1, zq2, zq3, zq4, zq5, zq6, zq7, zq8, zq9, zqa, zqb, zqc, zqd, zqe, zqf] at hc5
      refine vc_seq fun K11 hK11 => ?_
      refine vc_region ?_
      refine vo_assign_pv rfl rfl ?_
      refine vo_nil ?_
      refine hK11 _ ?_
      refine vc_ret ?_
      change retPv _ _ _ _ _
      refine retPv_mk rfl rfl rfl ⟨?_, rfl⟩
      refine (congrArg (fun b => [bo b]) (?_ : _ = _) : [bo _] = [bo _])
      exact bF fun h => hc5 (((vb_iff _).1 h).2 k (by omega)).2.2.2
     ·try simp only [zq0, zq1, zq2, zq3, zq4, zq5, zq6, zq7, zq8, zq9, zqa, zqb, zqc, zqd, zqe, zqf] at hc5
      refine vc_skip ?_
      refine hK6 _ ?_
      refine vc_region ?_
      refine vo_move_pv rfl rfl ?_
      refine vo_binI rfl rfl rfl rfl sd ?_
      refine vo_assign_pv rfl rfl ?_
      refine vo_nil ?_
      change againF _ _ _ _ _ _ _ _ _
      refine againF_mk rfl rfl rfl rfl rfl rfl ⟨_, ?_, k + 1, rfl, ?_, ?_, rfl⟩
      ·omega
      ·omega
      ·intro i hi; rcases Nat.lt_or_ge i k with h1 | h1; exact hf i h1; rw [show i = k by omega]; exact ⟨by omega, by omega, hg4, hc5⟩
 ·try simp only [zq0, zq1, zq2, zq3, zq4, zq5, zq6, zq7, zq8, zq9, zqa, zqb, zqc, zqd, zqe, zqf] at hc1
  refine vc_exit ?_
  refine hK2 _ ?_
  refine vc_seq fun K12 hK12 => ?_
  refine vc_region ?_
  refine vo_move_pv rfl rfl ?_
  refine vo_len_pv rfl rfl Try.underlying23 ?_
  refine vo_call0 Try.func58 rfl rfl rfl rfl inRange_sat ?_
  rintro _ _ ⟨rfl, rfl⟩
  refine ⟨rfl, rfl, .inl rfl, ?_⟩
  refine vo_assign_pv rfl rfl ?_
  refine vo_nil ?_
  refine hK12 _ ?_
  refine vc_ret ?_
  change retPv _ _ _ _ _
  refine retPv_mk rfl rfl rfl ⟨?_, rfl⟩
  refine (congrArg (fun b => [bo b]) (?_ : _ = _) : [bo _] = [bo _])
  exact decide_eq_decide.2 ⟨fun h => (vb_iff _).2 ⟨by simp at h; omega, fun i hi => hf i (by omega)⟩, fun h => by have := ((vb_iff _).1 h).1; simp; omega⟩


theorem Index_sat {nl0 : Option Bool} {s : List Int} {v : Int} (hs : s.length < 1000000000)  : SatAt Try.prog 98 [.pv false (.sl nl0 1 (s.map intP)), i64 v] [] (fun res rows => res = [i64 (findM v s 0)] ∧ rows = []) := by
 refine sat_entry (ts := [4]) Try.func98 rfl rfl (by decide) (Nat.le_of_ble_eq_true rfl) fun C hC => ?_
 rw [Try.ntmps98]
 replace hC : C.nb = 0 := hC
 refine vc_seq fun K1 hK1 => ?_
 refine vc_region ?_
 refine vo_assign_pv rfl rfl ?_
 refine vo_nil ?_
 refine hK1 _ ?_
 refine vc_seq fun K2 hK2 => ?_
 refine vc_seq fun K3 hK3 => ?_
 refine vc_region ?_
 refine vo_move_pv rfl rfl ?_
 refine vo_len_pv rfl rfl Try.underlying24 ?_
 refine vo_move_pv rfl rfl ?_
 refine vo_nil ?_
 refine hK3 _ ?_
 refine vc_block ?_
 refine vc_stN ?_
 refine vc_loopF [0, 1, 7] [8] [.pv false (.sl nl0 1 (s.map intP)), i64 v, i64 (s.map intP).length] _ (fun mz vs => ∃ (k : Nat), mz = s.length - k ∧ (k ≤ s.length) ∧ (findM v s 0 = findM v (s.drop k) k) ∧ vs = [i64 k]) (s.length) rfl rfl (le_len hC rfl) ⟨rfl, rfl, rfl⟩ ⟨0, rfl, Nat.zero_le _, rfl, rfl⟩ ?_
 rintro mz vs - ⟨k, rfl, hk, hf, rfl⟩
 refine vc_stN ?_
 refine vc_seq fun K4 hK4 => ?_
 refine vc_region ?_
 refine vo_binI rfl rfl rfl rfl trivial ?_
 refine vo_nil ?_
 refine hK4 _ ?_
 refine vc_seq fun K5 hK5 => ?_
 refine vc_cond rfl (fun hc1 => ?_) (fun hc1 => ?_)
 ·try simp only [zq0, zq1, zq2, zq3, zq4, zq5, zq6, zq7, zq8, zq9, zqa, zqb, zqc, zqd, zqe, zqf] at hc1
  refine vc_skip ?_
  refine hK5 _ ?_
  refine vc_seq fun K6 hK6 => ?_
  refine vc_block ?_
  refine vc_seq fun K7 hK7 => ?_
  refine vc_region ?_
  refine vo_move_pv rfl rfl ?_
  refine vo_assign_pv rfl rfl ?_
  refine vo_nil ?_
  refine hK7 _ ?_
  refine vc_seq fun K8 hK8 => ?_
  refine vc_region ?_
  refine vo_move_pv rfl rfl ?_
  refine vo_move_pv rfl rfl ?_
  refine vo_move_pv rfl rfl ?_
  refine vo_index_pv (.int .i64 0) rfl rfl rfl E24.und inf3 sz3 sd sd ?_
  simp only [Int.toNat_natCast, Int.toNat_zero, getD_ints, getD_intss, getD_bools, getD_bytes, PV.cells]
  refine vo_load_adr rfl rfl Try.underlying3 rfl ?_
  refine vo_binI rfl rfl rfl rfl trivial ?_
  refine vo_nil ?_
  refine hK8 _ ?_
  refine vc_cond rfl (fun hc2 => ?_) (fun hc2 => ?_)
  ·try simp only [zq0, zq1, zq2, zq3, zq4, zq5, zq6, zq7, zq8, zq9, zqa, zqb, zqc, zqd, zqe, zqf] at hc2
   refine vc_seq fun K9 hK9 => ?_
   refine vc_region ?_
   refine vo_move_pv rfl rfl ?_
   refine vo_assign_pv rfl rfl ?_
   refine vo_nil ?_
   refine hK9 _ ?_
   refine vc_ret ?_
   change retPv _ _ _ _ _
   refine retPv_mk rfl rfl rfl ⟨?_, rfl⟩
   refine (congrArg (fun b => [i64 b]) (?_ : _ = _) : [i64 _] = [i64 _])
   rw [hf, findM_drop _ _ _ (by omega), if_pos (by omega)]
  ·try simp only [zq0, zq1, zq2, zq3, zq4, zq5, zq6, zq7, zq8, zq9, zqa, zqb, zqc, zqd, zqe, zqf] at hc2
   refine vc_skip ?_
   refine hK6 _ ?_
   refine vc_region ?_
   refine vo_binI rfl rfl rfl rfl sd ?_
   refine vo_move_pv rfl rfl ?_
   refine vo_nil ?_
   change againF _ _ _ _ _ _ _ _ _
   refine againF_mk rfl rfl rfl rfl rfl rfl ⟨_, ?_, k + 1, rfl, ?_, ?_, rfl⟩
   ·omega
   ·omega
   ·rw [hf, findM_drop _ _ _ (by omega), if_neg (by omega)]; rfl
 ·try simp only [zq0, zq1, zq2, zq3, zq4, zq5, zq6, zq7, zq8, zq9, zqa, zqb, zqc, zqd, zqe, zqf] at hc1
  refine vc_exit ?_
  refine hK2 _ ?_
  refine vc_seq fun K10 hK10 => ?_
  refine vc_region ?_
  refine vo_assign_pv rfl rfl ?_
  refine vo_nil ?_
  refine hK10 _ ?_
  refine vc_ret ?_
  change retPv _ _ _ _ _
  refine retPv_mk rfl rfl rfl ⟨?_, rfl⟩
  refine (congrArg (fun b => [i64 b]) (?_ : _ = _) : [i64 _] = [i64 _])
  rw [hf, show k = s.length by omega, List.drop_length]; rfl


theorem Contains_sat {nl0 : Option Bool} {s : List Int} {v : Int} (hs : s.length < 1000000000)  : SatAt Try.prog 82 [.pv false (.sl nl0 1 (s.map intP)), i64 v] [] (fun res rows => res = [bo (decide (v ∈ s))] ∧ rows = []) := by
 refine sat_entry (ts := [4]) Try.func82 rfl rfl (by decide) (Nat.le_of_ble_eq_true rfl) fun C hC => ?_
 rw [Try.ntmps82]
 replace hC : C.nb = 0 := hC
 refine vc_seq fun K1 hK1 => ?_
 refine vc_region ?_
 refine vo_assign_pv rfl rfl ?_
 refine vo_nil ?_
 refine hK1 _ ?_
 refine vc_seq fun K2 hK2 => ?_
 refine vc_region ?_
 refine vo_move_pv rfl rfl ?_
 refine vo_move_pv rfl rfl ?_
 refine vo_call0 Try.func98 rfl rfl rfl rfl (Index_sat hs) ?_
 rintro _ _ ⟨rfl, rfl⟩
 refine ⟨rfl, rfl, .inl rfl, ?_⟩
 refine vo_binI rfl rfl rfl rfl trivial ?_
 refine vo_assign_pv rfl rfl ?_
 refine vo_nil ?_
 refine hK2 _ ?_
 refine vc_ret ?_
 change retPv _ _ _ _ _
 refine retPv_mk rfl rfl rfl ⟨?_, rfl⟩
 refine (congrArg (fun b => [bo b]) (?_ : _ = _) : [bo _] = [bo _])
 exact decide_eq_decide.2 (findM_mem _ _ _ (by omega))


theorem isList_sat {nl0 : Option Bool} {list : List Int} {most : Int} (hlist : list.length < 1000000000)  : SatAt Try.prog 92 [.pv false (.sl nl0 1 (list.map intP)), i64 most] [] (fun res rows => res = [bo (decide (OKL list most))] ∧ rows = []) := by
 refine sat_entry (ts := [4]) Try.func92 rfl rfl (by decide) (Nat.le_of_ble_eq_true rfl) fun C hC => ?_
 rw [Try.ntmps92]
 replace hC : C.nb = 0 := hC
 refine vc_seq fun K1 hK1 => ?_
 refine vc_region ?_
 refine vo_assign_pv rfl rfl ?_
 refine vo_nil ?_
 refine hK1 _ ?_
 refine vc_seq fun K2 hK2 => ?_
 refine vc_seq fun K3 hK3 => ?_
 refine vc_region ?_
 refine vo_move_pv rfl rfl ?_
 refine vo_len_pv rfl rfl Try.underlying24 ?_
 refine vo_move_pv rfl rfl ?_
 refine vo_binI rfl rfl rfl rfl trivial ?_
 refine vo_nil ?_
 refine hK3 _ ?_
 refine vc_cond rfl (fun hc1 => ?_) (fun hc1 => ?_)
 ·try simp only [zq0, zq1, zq2, zq3, zq4, zq5, zq6, zq7, zq8, zq9, zqa, zqb, zqc, zqd, zqe, zqf] at hc1
  refine vc_seq fun K4 hK4 => ?_
  refine vc_region ?_
  refine vo_assign_pv rfl rfl ?_
  refine vo_nil ?_
  refine hK4 _ ?_
  refine vc_ret ?_
  change retPv _ _ _ _ _
  refine retPv_mk rfl rfl rfl ⟨?_, rfl⟩
  refine (congrArg (fun b => [bo b]) (?_ : _ = _) : [bo _] = [bo _])
  exact bF fun h => by have := h.1; omega
 ·try simp only [zq0, zq1, zq2, zq3, zq4, zq5, zq6, zq7, zq8, zq9, zqa, zqb, zqc, zqd, zqe, zqf] at hc1
  refine vc_skip ?_
  refine hK2 _ ?_
  refine vc_seq fun K5 hK5 => ?_
  refine vc_seq fun K6 hK6 => ?_
  refine vc_region ?_
  refine vo_move_pv rfl rfl ?_
  refine vo_len_pv rfl rfl Try.underlying24 ?_
  refine vo_move_pv rfl rfl ?_
  refine vo_nil ?_
  refine hK6 _ ?_
  refine vc_block ?_
  refine vc_stN ?_
  refine vc_loopF [0, 11, 12] [13] [.pv false (.sl nl0 1 (list.map intP)), .pv false (.sl nl0 1 (list.map intP)), i64 (list.map intP).length] _ (fun mz vs => ∃ (k : Nat), mz = list.length - k ∧ (k ≤ list.length) ∧ ((list.take k).Nodup) ∧ vs = [i64 k]) (list.length) rfl rfl (le_len hC rfl) ⟨rfl, rfl, rfl⟩ ⟨0, rfl, Nat.zero_le _, List.nodup_nil, rfl⟩ ?_
  rintro mz vs - ⟨k, rfl, hk, hf, rfl⟩
  refine vc_stN ?_
  refine vc_seq fun K7 hK7 => ?_
  refine vc_region ?_
  refine vo_binI rfl rfl rfl rfl trivial ?_
  refine vo_nil ?_
  refine hK7 _ ?_
  refine vc_seq fun K8 hK8 => ?_
  refine vc_cond rfl (fun hc2 => ?_) (fun hc2 => ?_)
  ·try simp only [zq0, zq1, zq2, zq3, zq4, zq5, zq6, zq7, zq8, zq9, zqa, zqb, zqc, zqd, zqe, zqf] at hc2
   refine vc_skip ?_
   refine hK8 _ ?_
   refine vc_seq fun K9 hK9 => ?_
   refine vc_block ?_
   refine vc_seq fun K10 hK10 => ?_
   refine vc_region ?_
   refine vo_move_pv rfl rfl ?_
   refine vo_index_pv (.int .i64 0) rfl rfl rfl E24.und inf3 sz3 sd sd ?_
   simp only [Int.toNat_natCast, Int.toNat_zero, getD_ints, getD_intss, getD_bools, getD_bytes, PV.cells]
   refine vo_load_adr rfl rfl Try.underlying3 rfl ?_
   refine vo_assign_pv rfl rfl ?_
   refine vo_assign_pv rfl rfl ?_
   refine vo_nil ?_
   refine hK10 _ ?_
   refine vc_seq fun K11 hK11 => ?_
   refine vc_region ?_
   refine vo_move_pv rfl rfl ?_
   refine vo_move_pv rfl rfl ?_
   refine vo_slice_pv rfl rfl rfl rfl E24.und inf3 sz3 sd sd sd ?_
   simp only [Int.toNat_natCast, Int.toNat_zero, List.drop_zero, Nat.sub_zero, ← List.map_drop, ← List.map_take]
   refine vo_move_pv rfl rfl ?_
   refine vo_call0 Try.func82 rfl rfl rfl rfl (Contains_sat (by simp; omega)) ?_
   rintro _ _ ⟨rfl, rfl⟩
   refine ⟨rfl, rfl, .inl rfl, ?_⟩
   refine vo_nil ?_
   refine hK11 _ ?_
   refine vc_cond rfl (fun hc3 => ?_) (fun hc3 => ?_)
   ·try simp only [zq0, zq1, zq2, zq3, zq4, zq5, zq6, zq7, zq8, zq9, zqa, zqb, zqc, zqd, zqe, zqf] at hc3
    refine vc_seq fun K12 hK12 => ?_
    refine vc_region ?_
    refine vo_assign_pv rfl rfl ?_
    refine vo_nil ?_
    refine hK12 _ ?_
    refine vc_ret ?_
    change retPv _ _ _ _ _
    refine retPv_mk rfl rfl rfl ⟨?_, rfl⟩
    refine (congrArg (fun b => [bo b]) (?_ : _ = _) : [bo _] = [bo _])
    exact bF fun h => ((nodup_take_succ (by omega) 0).1 (nodup_take (k+1) h.2)).2 hc3
   ·try simp only [zq0, zq1, zq2, zq3, zq4, zq5, zq6, zq7, zq8, zq9, zqa, zqb, zqc, zqd, zqe, zqf] at hc3
    refine vc_skip ?_
    refine hK9 _ ?_
    refine vc_region ?_
    refine vo_binI rfl rfl rfl rfl sd ?_
    refine vo_move_pv rfl rfl ?_
    refine vo_nil ?_
    change againF _ _ _ _ _ _ _ _ _
    refine againF_mk rfl rfl rfl rfl rfl rfl ⟨_, ?_, k + 1, rfl, ?_, ?_, rfl⟩
    ·omega
    ·omega
    ·exact (nodup_take_succ (by omega) 0).2 ⟨hf, hc3⟩
  ·try simp only [zq0, zq1, zq2, zq3, zq4, zq5, zq6, zq7, zq8, zq9, zqa, zqb, zqc, zqd, zqe, zqf] at hc2
   refine vc_exit ?_
   refine hK5 _ ?_
   refine vc_seq fun K13 hK13 => ?_
   refine vc_region ?_
   refine vo_assign_pv rfl rfl ?_
   refine vo_nil ?_
   refine hK13 _ ?_
   refine vc_ret ?_
   change retPv _ _ _ _ _
   refine retPv_mk rfl rfl rfl ⟨?_, rfl⟩
   refine (congrArg (fun b => [bo b]) (?_ : _ = _) : [bo _] = [bo _])
   rw [take_all (by omega)] at hf; exact bT ⟨by omega, hf⟩


theorem isUpTo_sat {n : Int} {most : Int}   : SatAt Try.prog 99 [i64 n, i64 most] [] (fun res rows => res = [bo (decide (0 ≤ n ∧ n ≤ most))] ∧ rows = []) := by
 refine sat_entry (ts := [4]) Try.func99 rfl rfl (by decide) (Nat.le_of_ble_eq_true rfl) fun C hC => ?_
 rw [Try.ntmps99]
 replace hC : C.nb = 0 := hC
 refine vc_seq fun K1 hK1 => ?_
 refine vc_region ?_
 refine vo_assign_pv rfl rfl ?_
 refine vo_nil ?_
 refine hK1 _ ?_
 refine vc_seq fun K2 hK2 => ?_
 refine vc_region ?_
 refine vo_move_pv rfl rfl ?_
 refine vo_binI rfl rfl rfl rfl trivial ?_
 refine vo_move_pv rfl rfl ?_
 refine vo_split 7 rfl (fun hg1 => ?_) (fun hg1 => ?_)
 ·try simp only [zq0, zq1, zq2, zq3, zq4, zq5, zq6, zq7, zq8, zq9, zqa, zqb, zqc, zqd, zqe, zqf] at hg1
  refine vo_guard_on rfl rfl rfl ?_
  refine vo_move_pv rfl rfl ?_
  refine vo_guard_on rfl rfl rfl ?_
  refine vo_move_pv rfl rfl ?_
  refine vo_guard_on rfl rfl rfl ?_
  refine vo_binI rfl rfl rfl rfl trivial ?_
  refine vo_pick_t rfl rfl ?_
  refine vo_assign_pv rfl rfl ?_
  refine vo_nil ?_
  refine hK2 _ ?_
  refine vc_ret ?_
  change retPv _ _ _ _ _
  refine retPv_mk rfl rfl rfl ⟨?_, rfl⟩
  refine (congrArg (fun b => [bo b]) (?_ : _ = _) : [bo _] = [bo _])
  simp_all <;> omega
 ·try simp only [zq0, zq1, zq2, zq3, zq4, zq5, zq6, zq7, zq8, zq9, zqa, zqb, zqc, zqd, zqe, zqf] at hg1
  refine vo_guard_off rfl rfl rfl rfl rfl ?_
  refine vo_guard_off rfl rfl rfl rfl rfl ?_
  refine vo_guard_off rfl rfl rfl rfl rfl ?_
  refine vo_pick_f rfl rfl ?_
  refine vo_assign_pv rfl rfl ?_
  refine vo_nil ?_
  refine hK2 _ ?_
  refine vc_ret ?_
  change retPv _ _ _ _ _
  refine retPv_mk rfl rfl rfl ⟨?_, rfl⟩
  refine (congrArg (fun b => [bo b]) (?_ : _ = _) : [bo _] = [bo _])
  simp_all <;> omega


theorem areUpTo_sat {nl0 : Option Bool} {list : List Int} {most : Int} (hlist : list.length < 1000000000)  : SatAt Try.prog 84 [.pv false (.sl nl0 1 (list.map intP)), i64 most] [] (fun res rows => res = [bo (decide (∀ x ∈ list, 0 ≤ x ∧ x ≤ most))] ∧ rows = []) := by
 refine sat_entry (ts := [4]) Try.func84 rfl rfl (by decide) (Nat.le_of_ble_eq_true rfl) fun C hC => ?_
 rw [Try.ntmps84]
 replace hC : C.nb = 0 := hC
 refine vc_seq fun K1 hK1 => ?_
 refine vc_region ?_
 refine vo_assign_pv rfl rfl ?_
 refine vo_nil ?_
 refine hK1 _ ?_
 refine vc_seq fun K2 hK2 => ?_
 refine vc_seq fun K3 hK3 => ?_
 refine vc_region ?_
 refine vo_move_pv rfl rfl ?_
 refine vo_len_pv rfl rfl Try.underlying24 ?_
 refine vo_move_pv rfl rfl ?_
 refine vo_nil ?_
 refine hK3 _ ?_
 refine vc_block ?_
 refine vc_stN ?_
 refine vc_loopF [1, 7, 8] [9] [i64 most, .pv false (.sl nl0 1 (list.map intP)), i64 (list.map intP).length] _ (fun mz vs => ∃ (k : Nat), mz = list.length - k ∧ (k ≤ list.length) ∧ (∀ x ∈ list.take k, 0 ≤ x ∧ x ≤ most) ∧ vs = [i64 k]) (list.length) rfl rfl (le_len hC rfl) ⟨rfl, rfl, rfl⟩ ⟨0, rfl, Nat.zero_le _, (by simp), rfl⟩ ?_
 rintro mz vs - ⟨k, rfl, hk, hf, rfl⟩
 refine vc_stN ?_
 refine vc_seq fun K4 hK4 => ?_
 refine vc_region ?_
 refine vo_binI rfl rfl rfl rfl trivial ?_
 refine vo_nil ?_
 refine hK4 _ ?_
 refine vc_seq fun K5 hK5 => ?_
 refine vc_cond rfl (fun hc1 => ?_) (fun hc1 => ?_)
 ·try simp only [zq0, zq1, zq2, zq3, zq4, zq5, zq6, zq7, zq8, zq9, zqa, zqb, zqc, zqd, zqe, zqf] at hc1
  refine vc_skip ?_
  refine hK5 _ ?_
  refine vc_seq fun K6 hK6 => ?_
  refine vc_block ?_
  refine vc_seq fun K7 hK7 => ?_
  refine vc_region ?_
  refine vo_index_pv (.int .i64 0) rfl rfl rfl E24.und inf3 sz3 sd sd ?_
  simp only [Int.toNat_natCast, Int.toNat_zero, getD_ints, getD_intss, getD_bools, getD_bytes, PV.cells]
  refine vo_load_adr rfl rfl Try.underlying3 rfl ?_
  refine vo_assign_pv rfl rfl ?_
  refine vo_nil ?_
  refine hK7 _ ?_
  refine vc_seq fun K8 hK8 => ?_
  refine vc_region ?_
  refine vo_move_pv rfl rfl ?_
  refine vo_move_pv rfl rfl ?_
  refine vo_call0 Try.func99 rfl rfl rfl rfl isUpTo_sat ?_
  rintro _ _ ⟨rfl, rfl⟩
  refine ⟨rfl, rfl, .inl rfl, ?_⟩
  refine vo_not rfl rfl ?_
  refine vo_nil ?_
  refine hK8 _ ?_
  refine vc_cond rfl (fun hc2 => ?_) (fun hc2 => ?_)
  ·try simp only [zq0, zq1, zq2, zq3, zq4, zq5, zq6, zq7, zq8, zq9, zqa, zqb, zqc, zqd, zqe, zqf] at hc2
   refine vc_seq fun K9 hK9 => ?_
   refine vc_region ?_
   refine vo_assign_pv rfl rfl ?_
   refine vo_nil ?_
   refine hK9 _ ?_
   refine vc_ret ?_
   change retPv _ _ _ _ _
   refine retPv_mk rfl rfl rfl ⟨?_, rfl⟩
   refine (congrArg (fun b => [bo b]) (?_ : _ = _) : [bo _] = [bo _])
   exact bF fun h => by have := h _ (getD_mem (show k < list.length by omega) 0); first | contradiction | omega
  ·try simp only [zq0, zq1, zq2, zq3, zq4, zq5, zq6, zq7, zq8, zq9, zqa, zqb, zqc, zqd, zqe, zqf] at hc2
   refine vc_skip ?_
   refine hK6 _ ?_
   refine vc_region ?_
   refine vo_binI rfl rfl rfl rfl sd ?_
   refine vo_move_pv rfl rfl ?_
   refine vo_nil ?_
   change againF _ _ _ _ _ _ _ _ _
   refine againF_mk rfl rfl rfl rfl rfl rfl ⟨_, ?_, k + 1, rfl, ?_, ?_, rfl⟩
   ·omega
   ·omega
   ·exact (all_take_succ (by omega) 0).2 ⟨hf, by first | assumption | omega⟩
 ·try simp only [zq0, zq1, zq2, zq3, zq4, zq5, zq6, zq7, zq8, zq9, zqa, zqb, zqc, zqd, zqe, zqf] at hc1
  refine vc_exit ?_
  refine hK2 _ ?_
  refine vc_seq fun K10 hK10 => ?_
  refine vc_region ?_
  refine vo_assign_pv rfl rfl ?_
  refine vo_nil ?_
  refine hK10 _ ?_
  refine vc_ret ?_
  change retPv _ _ _ _ _
  refine retPv_mk rfl rfl rfl ⟨?_, rfl⟩
  refine (congrArg (fun b => [bo b]) (?_ : _ = _) : [bo _] = [bo _])
  rw [take_all (by omega)] at hf; exact bT hf


theorem canBeBases_sat {nl0 : Option Bool} {list : List Int} {c : Int} (hlist : list.length < 1000000000) (hc : -1000000 < c ∧ c < 1000000) : SatAt Try.prog 63 [.pv false (.sl nl0 1 (list.map intP)), i64 c] [] (fun res rows => res = [bo (decide (CB list c))] ∧ rows = []) := by
 refine sat_entry (ts := [4]) Try.func63 rfl rfl (by decide) (Nat.le_of_ble_eq_true rfl) fun C hC => ?_
 rw [Try.ntmps63]
 replace hC : C.nb = 0 := hC
 refine vc_seq fun K1 hK1 => ?_
 refine vc_region ?_
 refine vo_assign_pv rfl rfl ?_
 refine vo_nil ?_
 refine hK1 _ ?_
 refine vc_seq fun K2 hK2 => ?_
 refine vc_region ?_
 refine vo_move_pv rfl rfl ?_
 refine vo_len_pv rfl rfl Try.underlying24 ?_
 refine vo_binI rfl rfl rfl rfl trivial ?_
 refine vo_move_pv rfl rfl ?_
 refine vo_split 8 rfl (fun hg1 => ?_) (fun hg1 => ?_)
 ·try simp only [zq0, zq1, zq2, zq3, zq4, zq5, zq6, zq7, zq8, zq9, zqa, zqb, zqc, zqd, zqe, zqf] at hg1
  refine vo_guard_on rfl rfl rfl ?_
  refine vo_move_pv rfl rfl ?_
  refine vo_guard_on rfl rfl rfl ?_
  refine vo_call0 Try.func92 rfl rfl rfl rfl (isList_sat hlist) ?_
  rintro _ _ ⟨rfl, rfl⟩
  refine ⟨rfl, rfl, .inl rfl, ?_⟩
  refine vo_pick_t rfl rfl ?_
  refine vo_move_pv rfl rfl ?_
  refine vo_split 12 rfl (fun hg2 => ?_) (fun hg2 => ?_)
  ·try simp only [zq0, zq1, zq2, zq3, zq4, zq5, zq6, zq7, zq8, zq9, zqa, zqb, zqc, zqd, zqe, zqf] at hg2
   refine vo_guard_on rfl rfl rfl ?_
   refine vo_move_pv rfl rfl ?_
   refine vo_guard_on rfl rfl rfl ?_
   refine vo_move_pv rfl rfl ?_
   refine vo_guard_on rfl rfl rfl ?_
   refine vo_binI rfl rfl rfl rfl sd ?_
   refine vo_guard_on rfl rfl rfl ?_
   refine vo_call0 Try.func84 rfl rfl rfl rfl (areUpTo_sat hlist) ?_
   rintro _ _ ⟨rfl, rfl⟩
   refine ⟨rfl, rfl, .inl rfl, ?_⟩
   refine vo_pick_t rfl rfl ?_
   refine vo_assign_pv rfl rfl ?_
   refine vo_nil ?_
   refine hK2 _ ?_
   refine vc_ret ?_
   change retPv _ _ _ _ _
   refine retPv_mk rfl rfl rfl ⟨?_, rfl⟩
   refine (congrArg (fun b => [bo b]) (?_ : _ = _) : [bo _] = [bo _])
   exact decide_eq_decide.2 ⟨fun h => ⟨fun e => by simp [e] at hg1, by have := hg2.1; omega, hg2.2, h⟩, fun h => h.2.2.2⟩
  ·try simp only [zq0, zq1, zq2, zq3, zq4, zq5, zq6, zq7, zq8, zq9, zqa, zqb, zqc, zqd, zqe, zqf] at hg2
   refine vo_guard_off rfl rfl rfl rfl rfl ?_
   refine vo_guard_off rfl rfl rfl rfl rfl ?_
   refine vo_guard_off rfl rfl rfl rfl rfl ?_
   refine vo_guard_off rfl rfl rfl rfl rfl ?_
   refine vo_pick_f rfl rfl ?_
   refine vo_assign_pv rfl rfl ?_
   refine vo_nil ?_
   refine hK2 _ ?_
   refine vc_ret ?_
   change retPv _ _ _ _ _
   refine retPv_mk rfl rfl rfl ⟨?_, rfl⟩
   refine (congrArg (fun b => [bo b]) (?_ : _ = _) : [bo _] = [bo _])
   exact bF fun h => hg2 ⟨by have := h.2.1; omega, h.2.2.1⟩
 ·try simp only [zq0, zq1, zq2, zq3, zq4, zq5, zq6, zq7, zq8, zq9, zqa, zqb, zqc, zqd, zqe, zqf] at hg1
  refine vo_guard_off rfl rfl rfl rfl rfl ?_
  refine vo_guard_off rfl rfl rfl rfl rfl ?_
  refine vo_pick_f rfl rfl ?_
  refine vo_move_pv rfl rfl ?_
  refine vo_guard_off rfl rfl rfl rfl rfl ?_
  refine vo_guard_off rfl rfl rfl rfl rfl ?_
  refine vo_guard_off rfl rfl rfl rfl rfl ?_
  refine vo_guard_off rfl rfl rfl rfl rfl ?_
  refine vo_pick_f rfl rfl ?_
  refine vo_assign_pv rfl rfl ?_
  refine vo_nil ?_
  refine hK2 _ ?_
  refine vc_ret ?_
  change retPv _ _ _ _ _
  refine retPv_mk rfl rfl rfl ⟨?_, rfl⟩
  refine (congrArg (fun b => [bo b]) (?_ : _ = _) : [bo _] = [bo _])
  exact bF fun h => h.1 (List.length_eq_zero_iff.1 (by omega))


theorem implValidBases_sat {nl0 : Option Bool} {bases : List (List Int)} (hbases : bases.length < 1000000000) (hlbases : ∀ l ∈ bases, l.length < 1000000000)  : SatAt Try.prog 21 [.pv false (.sl nl0 1 (bases.map ints))] [] (fun res rows => res = [bo (decide (VB bases))] ∧ rows = []) := by
 refine sat_entry (ts := [2]) Try.func21 rfl rfl (by decide) (Nat.le_of_ble_eq_true rfl) fun C hC => ?_
 rw [Try.ntmps21]
 replace hC : C.nb = 0 := hC
 refine vc_seq fun K1 hK1 => ?_
 refine vc_region ?_
 refine vo_assign_pv rfl rfl ?_
 refine vo_nil ?_
 refine hK1 _ ?_
 refine vc_seq fun K2 hK2 => ?_
 refine vc_seq fun K3 hK3 => ?_
 refine vc_region ?_
 refine vo_move_pv rfl rfl ?_
 refine vo_len_pv rfl rfl Try.underlying23 ?_
 refine vo_binI rfl rfl rfl rfl trivial ?_
 refine vo_move_pv rfl rfl ?_
 refine vo_split 7 rfl (fun hg1 => ?_) (fun hg1 => ?_)
 ·try simp only [zq0, zq1, zq2, zq3, zq4, zq5, zq6, zq7, zq8, zq9, zqa, zqb, zqc, zqd, zqe, zqf] at hg1
  refine vo_guard_off rfl rfl rfl rfl rfl ?_
  refine vo_guard_off rfl rfl rfl rfl rfl ?_
  refine vo_guard_off rfl rfl rfl rfl rfl ?_
  refine vo_pick_t rfl rfl ?_
  refine vo_move_pv rfl rfl ?_
  refine vo_guard_off rfl rfl rfl rfl rfl ?_
  refine vo_guard_off rfl rfl rfl rfl rfl ?_
  refine vo_guard_off rfl rfl rfl rfl rfl ?_
  refine vo_guard_off rfl rfl rfl rfl rfl ?_
  refine vo_guard_off rfl rfl rfl rfl rfl ?_
  refine vo_pick_t rfl rfl ?_
  refine vo_nil ?_
  refine hK3 _ ?_
  refine vc_cond_t rfl ?_
  refine vc_seq fun K4 hK4 => ?_
  refine vc_region ?_
  refine vo_assign_pv rfl rfl ?_
  refine vo_nil ?_
  refine hK4 _ ?_
  refine vc_ret ?_
  change retPv _ _ _ _ _
  refine retPv_mk rfl rfl rfl ⟨?_, rfl⟩
  refine (congrArg (fun b => [bo b]) (?_ : _ = _) : [bo _] = [bo _])
  exact bF fun h => by have := h.1; omega
 ·try simp only [zq0, zq1, zq2, zq3, zq4, zq5, zq6, zq7, zq8, zq9, zqa, zqb, zqc, zqd, zqe, zqf] at hg1
  refine vo_guard_on rfl rfl rfl ?_
  refine vo_move_pv rfl rfl ?_
  refine vo_guard_on rfl rfl rfl ?_
  refine vo_len_pv rfl rfl Try.underlying23 ?_
  refine vo_guard_on rfl rfl rfl ?_
  refine vo_binI rfl rfl rfl rfl trivial ?_
  refine vo_pick_f rfl rfl ?_
  refine vo_move_pv rfl rfl ?_
  refine vo_split 12 rfl (fun hg2 => ?_) (fun hg2 => ?_)
  ·try simp only [zq0, zq1, zq2, zq3, zq4, zq5, zq6, zq7, zq8, zq9, zqa, zqb, zqc, zqd, zqe, zqf] at hg2
   refine vo_guard_off rfl rfl rfl rfl rfl ?_
   refine vo_guard_off rfl rfl rfl rfl rfl ?_
   refine vo_guard_off rfl rfl rfl rfl rfl ?_
   refine vo_guard_off rfl rfl rfl rfl rfl ?_
   refine vo_guard_off rfl rfl rfl rfl rfl ?_
   refine vo_pick_t rfl rfl ?_
   refine vo_nil ?_
   refine hK3 _ ?_
   refine vc_cond_t rfl ?_
   refine vc_seq fun K5 hK5 => ?_
   refine vc_region ?_
   refine vo_assign_pv rfl rfl ?_
   refine vo_nil ?_
   refine hK5 _ ?_
   refine vc_ret ?_
   change retPv _ _ _ _ _
   refine retPv_mk rfl rfl rfl ⟨?_, rfl⟩
   refine (congrArg (fun b => [bo b]) (?_ : _ = _) : [bo _] = [bo _])
   exact bF fun h => by have := h.2.1; omega
  ·try simp only [zq0, zq1, zq2, zq3, zq4, zq5, zq6, zq7, zq8, zq9, zqa, zqb, zqc, zqd, zqe, zqf] at hg2
   refine vo_guard_on rfl rfl rfl ?_
   refine vo_move_pv rfl rfl ?_
   refine vo_guard_on rfl rfl rfl ?_
   refine vo_index_pv (.sl none 1 []) rfl rfl rfl E23.und inf24 sz24 sd sd ?_
   simp only [Int.toNat_natCast, Int.toNat_zero, getD_ints, getD_intss, getD_bools, getD_bytes, PV.cells]
   refine vo_guard_on rfl rfl rfl ?_
   refine vo_load_adr rfl rfl Try.underlying24 rfl ?_
   refine vo_guard_on rfl rfl rfl ?_
   refine vo_len_pv rfl rfl Try.underlying24 ?_
   refine vo_guard_on rfl rfl rfl ?_
   refine vo_binI rfl rfl rfl rfl trivial ?_
   refine vo_pick_f rfl rfl ?_
   refine vo_nil ?_
   refine hK3 _ ?_
   refine vc_cond rfl (fun hc3 => ?_) (fun hc3 => ?_)
   ·try simp only [zq0, zq1, zq2, zq3, zq4, zq5, zq6, zq7, zq8, zq9, zqa, zqb, zqc, zqd, zqe, zqf] at hc3
    refine vc_seq fun K6 hK6 => ?_
    refine vc_region ?_
    refine vo_assign_pv rfl rfl ?_
    refine vo_nil ?_
    refine hK6 _ ?_
    refine vc_ret ?_
    change retPv _ _ _ _ _
    refine retPv_mk rfl rfl rfl ⟨?_, rfl⟩
    refine (congrArg (fun b => [bo b]) (?_ : _ = _) : [bo _] = [bo _])
    exact bF fun h => by rw [h.2.2.1] at hc3; simp at hc3
   ·try simp only [zq0, zq1, zq2, zq3, zq4, zq5, zq6, zq7, zq8, zq9, zqa, zqb, zqc, zqd, zqe, zqf] at hc3
    refine vc_skip ?_
    refine hK2 _ ?_
    refine vc_seq fun K7 hK7 => ?_
    refine vc_seq fun K8 hK8 => ?_
    refine vc_region ?_
    refine vo_assign_pv rfl rfl ?_
    refine vo_nil ?_
    refine hK8 _ ?_
    refine vc_block ?_
    refine vc_stN ?_
    refine vc_loopF [0] [3] [.pv false (.sl nl0 1 (bases.map ints))] _ (fun mz vs => ∃ (k : Nat), mz = bases.length - k ∧ (k ≤ bases.length) ∧ (1 ≤ k) ∧ ((∀ i, i < k → 0 < i → CB (bases.getD i []) i)) ∧ vs = [i64 k]) (bases.length - 1) rfl rfl (le_len hC rfl) ⟨rfl, rfl, rfl⟩ ⟨1, rfl, by omega, Nat.le_refl _, (fun i h1 h2 => by omega), rfl⟩ ?_
    rintro mz vs - ⟨k, rfl, hk, h1, hf, rfl⟩
    refine vc_stN ?_
    refine vc_seq fun K9 hK9 => ?_
    refine vc_seq fun K10 hK10 => ?_
    refine vc_region ?_
    refine vo_move_pv rfl rfl ?_
    refine vo_move_pv rfl rfl ?_
    refine vo_len_pv rfl rfl Try.underlying23 ?_
    refine vo_binI rfl rfl rfl rfl trivial ?_
    refine vo_nil ?_
    refine hK10 _ ?_
    refine vc_cond rfl (fun hc4 => ?_) (fun hc4 => ?_)
    ·try simp only [zq0, zq1, zq2, zq3, zq4, zq5, zq6, zq7, zq8, zq9, zqa, zqb, zqc, zqd, zqe, zqf] at hc4
     refine vc_skip ?_
     refine hK9 _ ?_
     refine vc_seq fun K11 hK11 => ?_
     refine vc_block ?_
     refine vc_seq fun K12 hK12 => ?_
     refine vc_region ?_
     refine vo_move_pv rfl rfl ?_
     refine vo_move_pv rfl rfl ?_
     refine vo_index_pv (.sl none 1 []) rfl rfl rfl E23.und inf24 sz24 sd sd ?_
     simp only [Int.toNat_natCast, Int.toNat_zero, getD_ints, getD_intss, getD_bools, getD_bytes, PV.cells]
     refine vo_load_adr rfl rfl Try.underlying24 rfl ?_
     refine vo_move_pv rfl rfl ?_
     refine vo_call0 Try.func63 rfl rfl rfl rfl (canBeBases_sat (lens hlbases _ (by omega)) (by omega)) ?_
     rintro _ _ ⟨rfl, rfl⟩
     refine ⟨rfl, rfl, .inl rfl, ?_⟩
     refine vo_not rfl rfl ?_
     refine vo_nil ?_
     refine hK12 _ ?_
     refine vc_cond rfl (fun hc5 => ?_) (fun hc5 => ?_)
     ·try simp only [zq0, zq1, zq2, zq3, zq4, zq5, zq6, zq7, zq8, zq9, zqa, zqb, zqc, zqd, zqe, zqf] at hc5
      refine vc_seq fun K13 hK13 => ?_
      refine vc_region ?_
      refine vo_assign_pv rfl rfl ?_
      refine vo_nil ?_
      refine hK13 _ ?_
      refine vc_ret ?_
      change retPv _ _ _ _ _
      refine retPv_mk rfl rfl rfl ⟨?_, rfl⟩
      refine (congrArg (fun b => [bo b]) (?_ : _ = _) : [bo _] = [bo _])
      exact bF fun h => hc5 (h.2.2.2 k (by omega) (by omega))
     ·try simp only [zq0, zq1, zq2, zq3, zq4, zq5, zq6, zq7, zq8, zq9, zqa, zqb, zqc, zqd, zqe, zqf] at hc5
      refine vc_skip ?_
      refine hK11 _ ?_
      refine vc_region ?_
      refine vo_move_pv rfl rfl ?_
      refine vo_binI rfl rfl rfl rfl sd ?_
      refine vo_assign_pv rfl rfl ?_
      refine vo_nil ?_
      change againF _ _ _ _ _ _ _ _ _
      refine againF_mk rfl rfl rfl rfl rfl rfl ⟨_, ?_, k + 1, rfl, ?_, ?_, ?_, rfl⟩
      ·omega
      ·omega
      ·omega
      ·exact fun i h h0 => by rcases Nat.lt_or_ge i k with h1 | h1; exact hf i h1 h0; rwa [show i = k by omega]
    ·try simp only [zq0, zq1, zq2, zq3, zq4, zq5, zq6, zq7, zq8, zq9, zqa, zqb, zqc, zqd, zqe, zqf] at hc4
     refine vc_exit ?_
     refine hK7 _ ?_
     refine vc_seq fun K14 hK14 => ?_
     refine vc_region ?_
     refine vo_assign_pv rfl rfl ?_
     refine vo_nil ?_
     refine hK14 _ ?_
     refine vc_ret ?_
     change retPv _ _ _ _ _
     refine retPv_mk rfl rfl rfl ⟨?_, rfl⟩
     refine (congrArg (fun b => [bo b]) (?_ : _ = _) : [bo _] = [bo _])
     exact bT ⟨by omega, by omega, List.length_eq_zero_iff.1 (by omega), fun i h h0 => hf i (by omega) h0⟩

end Go.Vl

namespace Go.Vl
set_option linter.unusedVariables false
set_option linter.unusedSimpArgs false
open Go.Proofs

theorem VB.bd {b : List (List Int)} (h : VB b) {i : Nat} {x : Int} (hx : x ∈ b.getD i []) : 0 ≤ x ∧ x < i := by
  rcases Nat.lt_or_ge i b.length with hi | hi
  · rcases Nat.eq_zero_or_pos i with rfl | h0
    · rw [h.2.2.1] at hx; cases hx
    · have := (h.2.2.2 i hi h0).2.2.2 x hx; omega
  · simp [List.getD, List.getElem?_eq_none hi] at hx
theorem VB.bd' {b : List (List Int)} (h : VB b) : ∀ i x, x ∈ b.getD i [] → 0 ≤ x ∧ x < (i : Int) := fun _ _ => h.bd
theorem mkB_drop (l : List Int) (j : Nat) (m : List Bool) (h : j < l.length) : mkB (l.drop j) m = mkB (l.drop (j+1)) (m.set (l.getD j 0).toNat true) := by
  rw [List.drop_eq_getElem_cons h]
  have : l.getD j 0 = l[j] := by simp [List.getD, List.getElem?_eq_getElem h]
  rw [this]; rfl
theorem goC_s {b : List (List Int)} {i : Int} {m : List Bool} (h : 0 ≤ i) : goC b (i+1).toNat m = goC b (i-1+1).toNat (stB b i.toNat m) := by
  rw [show (i+1).toNat = i.toNat + 1 by omega, show (i-1+1).toNat = i.toNat by omega]; rfl
/-- The classes above a class; none where there is no such class. -/
def abvR (b : List (List Int)) (c : Int) : List Int := if VB b ∧ 0 ≤ c ∧ c < b.length then abvL b c.toNat else []
theorem abvR_of {b : List (List Int)} {n : Nat} (h : VB b) (hn : n < b.length) : abvR b n = abvL b n := by
  unfold abvR; rw [if_pos ⟨h, by omega, by omega⟩]; rfl
theorem above_sat {nl0 : Option Bool} {bases : List (List Int)} {n : Nat} (hbases : bases.length < 1000000000) (hlbases : ∀ l ∈ bases, l.length < 1000000000) (hv : VB bases) (hn : n < bases.length) : SatAt Try.prog 90 [.pv false (.sl nl0 1 (bases.map ints)), i64 n] [] (fun res rows => ∃ nl, res = [.ref 0] ∧ rows = [Row.own 3 1 nl true ((abvL bases n).map intP)]) := by
 refine sat_entry_g (ts := [4]) Try.func90 rfl rfl (by decide) (Nat.le_of_ble_eq_true rfl) fun C hC => ?_
 rw [Try.ntmps90]
 replace hC : C.nb = 0 := hC
 refine vc_seq fun K1 hK1 => ?_
 refine vc_region ?_
 refine vo_assign_pv rfl rfl ?_
 refine vo_nil ?_
 refine hK1 _ ?_
 refine vc_seq fun K2 hK2 => ?_
 refine vc_region ?_
 refine vo_move_pv rfl rfl ?_
 refine vo_len_pv rfl rfl Try.underlying23 ?_
 refine vo_make E74 rfl rfl rfl sd sd sd ?_
 refine vo_assign_ref rfl rfl ?_
 refine vo_nil ?_
 refine hK2 _ ?_
 refine vc_seq fun K3 hK3 => ?_
 refine vc_region ?_
 refine vo_move_ref rfl rfl ?_
 refine vo_move_pv rfl rfl ?_
 refine vo_index_ref rfl rfl rfl rfl E74.und inf4 sz4 sd sd ?_
 try simp only [Int.toNat_natCast]
 refine vo_store_own rfl rfl rfl inf4 sz4 (by decide) rfl sd ?_
 try simp only [set_ints, set_intss, set_bools, rep_bools, rep_ints, Int.toNat_natCast, Int.toNat_zero]
 refine vo_nil ?_
 refine hK3 _ ?_
 refine vc_seq fun K4 hK4 => ?_
 refine vc_seq fun K5 hK5 => ?_
 refine vc_region ?_
 refine vo_move_pv rfl rfl ?_
 refine vo_assign_pv rfl rfl ?_
 refine vo_nil ?_
 refine hK5 _ ?_
 refine vc_block ?_
 refine vc_stN ?_
 refine vc_loop [0, 5, 6] (fun mz vs rows => ∃ (i : Int) (m : List Bool), mz = (i+1).toNat ∧ (-1 ≤ i ∧ i < bases.length) ∧ (goC bases (i+1).toNat m = abvB bases n) ∧ (m.length = bases.length) ∧ vs = [.pv false (.sl nl0 1 (bases.map ints)), .ref 0, i64 i] ∧ rows = [Row.own 4 1 (some false) true ((m).map boolP)]) (n+1) (le_len hC rfl) ⟨rfl, rfl⟩ ⟨n, (List.replicate bases.length false).set n true, rfl, (by omega), (goC_goB hv.2.2.1 n _), (by simp), rfl, (by simp only [List.length_map])⟩ ?_
 rintro mz vs rows - - ⟨i, m, rfl, hi, hg, hl, rfl, rfl⟩
 refine vc_seq fun K6 hK6 => ?_
 refine vc_seq fun K7 hK7 => ?_
 refine vc_region ?_
 refine vo_move_pv rfl rfl ?_
 refine vo_binI rfl rfl rfl rfl trivial ?_
 refine vo_nil ?_
 refine hK7 _ ?_
 refine vc_cond rfl (fun hc1 => ?_) (fun hc1 => ?_)
 ·try simp only [zq0, zq1, zq2, zq3, zq4, zq5, zq6, zq7, zq8, zq9, zqa, zqb, zqc, zqd, zqe, zqf] at hc1
  refine vc_skip ?_
  refine hK6 _ ?_
  refine vc_seq fun K8 hK8 => ?_
  refine vc_block ?_
  refine vc_seq fun K9 hK9 => ?_
  refine vc_region ?_
  refine vo_assign_pv rfl rfl ?_
  refine vo_nil ?_
  refine hK9 _ ?_
  refine vc_block ?_
  refine vc_stN ?_
  refine vc_loop [0, 5, 6, 7] (fun mz vs rows => ∃ (j : Nat) (m2 : List Bool), mz = (bases.getD i.toNat []).length - j ∧ (j ≤ (bases.getD i.toNat []).length) ∧ (m.getD i.toNat false = true → mkB ((bases.getD i.toNat []).drop j) m2 = mkB (bases.getD i.toNat []) m) ∧ (m.getD i.toNat false = false → m2 = m) ∧ (m2.length = bases.length) ∧ (m2.getD i.toNat false = m.getD i.toNat false) ∧ vs = [.pv false (.sl nl0 1 (bases.map ints)), .ref 0, i64 i, i64 j] ∧ rows = [Row.own 4 1 (some false) true ((m2).map boolP)]) ((bases.getD i.toNat []).length) (le_len hC rfl) ⟨rfl, rfl⟩ ⟨0, m, rfl, Nat.zero_le _, (fun _ => rfl), (fun _ => rfl), hl, rfl, rfl, rfl⟩ ?_
  rintro mz vs rows - - ⟨j, m2, rfl, hk, hm2, hm3, hl2, hs, rfl, rfl⟩
  have hLb := lens hlbases i.toNat (by omega)
  refine vc_seq fun K10 hK10 => ?_
  refine vc_seq fun K11 hK11 => ?_
  refine vc_region ?_
  refine vo_move_pv rfl rfl ?_
  refine vo_move_pv rfl rfl ?_
  refine vo_move_pv rfl rfl ?_
  refine vo_index_pv (.sl none 1 []) rfl rfl rfl E23.und inf24 sz24 sd sd ?_
  simp only [Int.toNat_natCast, Int.toNat_zero, getD_ints, getD_intss, getD_bools, getD_bytes, PV.cells]
  refine vo_load_adr rfl rfl Try.underlying24 rfl ?_
  refine vo_len_pv rfl rfl Try.underlying24 ?_
  refine vo_binI rfl rfl rfl rfl trivial ?_
  refine vo_move_pv rfl rfl ?_
  refine vo_split 28 rfl (fun hg2 => ?_) (fun hg2 => ?_)
  ·try simp only [zq0, zq1, zq2, zq3, zq4, zq5, zq6, zq7, zq8, zq9, zqa, zqb, zqc, zqd, zqe, zqf] at hg2
   have hb := hv.bd (getD_mem (show j < (bases.getD i.toNat []).length by omega) 0)
   refine vo_guard_on rfl rfl rfl ?_
   refine vo_move_ref rfl rfl ?_
   refine vo_guard_on rfl rfl rfl ?_
   refine vo_move_pv rfl rfl ?_
   refine vo_guard_on rfl rfl rfl ?_
   refine vo_index_ref rfl rfl rfl rfl E74.und inf4 sz4 sd sd ?_
   try simp only [Int.toNat_natCast]
   refine vo_guard_on rfl rfl rfl ?_
   refine vo_load_own rfl rfl rfl Try.underlying4 rfl sd (getD_bools _ _) rfl ?_
   try simp only [Int.toNat_natCast]
   refine vo_pick_t rfl rfl ?_
   refine vo_nil ?_
   refine hK11 _ ?_
   refine vc_cond rfl (fun hc3 => ?_) (fun hc3 => ?_)
   ·try simp only [zq0, zq1, zq2, zq3, zq4, zq5, zq6, zq7, zq8, zq9, zqa, zqb, zqc, zqd, zqe, zqf] at hc3
    refine vc_skip ?_
    refine hK10 _ ?_
    refine vc_seq fun K12 hK12 => ?_
    refine vc_block ?_
    refine vc_region ?_
    refine vo_move_ref rfl rfl ?_
    refine vo_move_pv rfl rfl ?_
    refine vo_move_pv rfl rfl ?_
    refine vo_index_pv (.sl none 1 []) rfl rfl rfl E23.und inf24 sz24 sd sd ?_
    simp only [Int.toNat_natCast, Int.toNat_zero, getD_ints, getD_intss, getD_bools, getD_bytes, PV.cells]
    refine vo_load_adr rfl rfl Try.underlying24 rfl ?_
    refine vo_move_pv rfl rfl ?_
    refine vo_index_pv (.int .i64 0) rfl rfl rfl E24.und inf3 sz3 sd sd ?_
    simp only [Int.toNat_natCast, Int.toNat_zero, getD_ints, getD_intss, getD_bools, getD_bytes, PV.cells]
    refine vo_load_adr rfl rfl Try.underlying3 rfl ?_
    refine vo_index_ref rfl rfl rfl rfl E74.und inf4 sz4 sd sd ?_
    try simp only [Int.toNat_natCast]
    refine vo_store_own rfl rfl rfl inf4 sz4 (by decide) rfl sd ?_
    try simp only [set_ints, set_intss, set_bools, rep_bools, rep_ints, Int.toNat_natCast, Int.toNat_zero]
    refine vo_nil ?_
    refine hK12 _ ?_
    refine vc_region ?_
    refine vo_move_pv rfl rfl ?_
    refine vo_binI rfl rfl rfl rfl sd ?_
    refine vo_assign_pv rfl rfl ?_
    refine vo_nil ?_
    change again _ _ _ _ _ _
    refine again_mk rfl rfl rfl rfl ⟨_, ?_, j + 1, m2.set ((bases.getD i.toNat []).getD j 0).toNat true, rfl, ?_, ?_, ?_, ?_, ?_, rfl, rfl⟩
    ·omega
    ·omega
    ·intro h; exact (mkB_drop _ _ _ (by omega)).symm.trans (hm2 h)
    ·intro h; rw [← hs, hc3] at h; cases h
    ·simpa using hl2
    ·rw [getD_set_b, if_neg (by omega)]; exact hs
   ·try simp only [zq0, zq1, zq2, zq3, zq4, zq5, zq6, zq7, zq8, zq9, zqa, zqb, zqc, zqd, zqe, zqf] at hc3
    refine vc_exit ?_
    refine hK8 _ ?_
    refine vc_region ?_
    refine vo_move_pv rfl rfl ?_
    refine vo_binI rfl rfl rfl rfl sd ?_
    refine vo_assign_pv rfl rfl ?_
    refine vo_nil ?_
    change again _ _ _ _ _ _
    refine again_mk rfl rfl rfl rfl ⟨_, ?_, i - 1, m2, rfl, ?_, ?_, ?_, rfl, rfl⟩
    ·omega
    ·omega
    ·have e : stB bases i.toNat m = m2 := by unfold stB; rw [if_neg (by rw [← hs, hc3]; simp), hm3 (by rw [← hs, hc3])]
     rw [← hg, goC_s (m := m) (by omega), e]
    ·exact hl2
  ·try simp only [zq0, zq1, zq2, zq3, zq4, zq5, zq6, zq7, zq8, zq9, zqa, zqb, zqc, zqd, zqe, zqf] at hg2
   refine vo_guard_off rfl rfl rfl rfl rfl ?_
   refine vo_guard_off rfl rfl rfl rfl rfl ?_
   refine vo_guard_off rfl rfl rfl rfl rfl ?_
   refine vo_guard_off rfl rfl rfl rfl rfl ?_
   refine vo_pick_f rfl rfl ?_
   refine vo_nil ?_
   refine hK11 _ ?_
   refine vc_cond_f rfl ?_
   refine vc_exit ?_
   refine hK8 _ ?_
   refine vc_region ?_
   refine vo_move_pv rfl rfl ?_
   refine vo_binI rfl rfl rfl rfl sd ?_
   refine vo_assign_pv rfl rfl ?_
   refine vo_nil ?_
   change again _ _ _ _ _ _
   refine again_mk rfl rfl rfl rfl ⟨_, ?_, i - 1, m2, rfl, ?_, ?_, ?_, rfl, rfl⟩
   ·omega
   ·omega
   ·have e : stB bases i.toNat m = m2 := by
     unfold stB
     split
     ·rename_i h; rw [← hm2 h, List.drop_eq_nil_of_le (by omega)]; rfl
     ·rename_i h; rw [hm3 (Bool.eq_false_iff.2 h)]
    rw [← hg, goC_s (m := m) (by omega), e]
   ·exact hl2
 ·try simp only [zq0, zq1, zq2, zq3, zq4, zq5, zq6, zq7, zq8, zq9, zqa, zqb, zqc, zqd, zqe, zqf] at hc1
  refine vc_exit ?_
  refine hK4 _ ?_
  refine vc_seq fun K13 hK13 => ?_
  refine vc_region ?_
  refine vo_buildSlice E24 rfl rfl rfl rfl rfl ?_
  refine vo_assign_ref rfl rfl ?_
  refine vo_nil ?_
  refine hK13 _ ?_
  refine vc_seq fun K14 hK14 => ?_
  refine vc_seq fun K15 hK15 => ?_
  refine vc_region ?_
  refine vo_assign_pv rfl rfl ?_
  refine vo_nil ?_
  refine hK15 _ ?_
  refine vc_block ?_
  refine vc_stN ?_
  refine vc_loop [0, 5, 8, 9] (fun mz vs rows => ∃ (k : Nat), mz = bases.length - k ∧ (k ≤ bases.length) ∧ vs = [.pv false (.sl nl0 1 (bases.map ints)), .ref 0, .ref 1, i64 k] ∧ rows = [Row.own 4 1 (some false) true ((m).map boolP), Row.own 3 1 (some false) true ((idxT m k).map intP)]) (bases.length) (le_len hC rfl) ⟨rfl, rfl⟩ ⟨0, rfl, Nat.zero_le _, rfl, rfl⟩ ?_
  rintro mz vs rows - - ⟨k, rfl, hk, rfl, rfl⟩
  have hL := idxT_len m k
  refine vc_seq fun K16 hK16 => ?_
  refine vc_seq fun K17 hK17 => ?_
  refine vc_region ?_
  refine vo_move_pv rfl rfl ?_
  refine vo_move_pv rfl rfl ?_
  refine vo_len_pv rfl rfl Try.underlying23 ?_
  refine vo_binI rfl rfl rfl rfl trivial ?_
  refine vo_nil ?_
  refine hK17 _ ?_
  refine vc_cond rfl (fun hc4 => ?_) (fun hc4 => ?_)
  ·try simp only [zq0, zq1, zq2, zq3, zq4, zq5, zq6, zq7, zq8, zq9, zqa, zqb, zqc, zqd, zqe, zqf] at hc4
   refine vc_skip ?_
   refine hK16 _ ?_
   refine vc_seq fun K18 hK18 => ?_
   refine vc_block ?_
   refine vc_seq fun K19 hK19 => ?_
   refine vc_region ?_
   refine vo_move_ref rfl rfl ?_
   refine vo_move_pv rfl rfl ?_
   refine vo_index_ref rfl rfl rfl rfl E74.und inf4 sz4 sd sd ?_
   try simp only [Int.toNat_natCast]
   refine vo_load_own rfl rfl rfl Try.underlying4 rfl sd (getD_bools _ _) rfl ?_
   try simp only [Int.toNat_natCast]
   refine vo_nil ?_
   refine hK19 _ ?_
   refine vc_cond rfl (fun hc5 => ?_) (fun hc5 => ?_)
   ·try simp only [zq0, zq1, zq2, zq3, zq4, zq5, zq6, zq7, zq8, zq9, zqa, zqb, zqc, zqd, zqe, zqf] at hc5
    refine vc_region ?_
    refine vo_move_ref rfl rfl ?_
    refine vo_move_pv rfl rfl ?_
    refine vo_buildSlice E24 rfl rfl rfl rfl rfl ?_
    refine vo_append E24 rfl (by omega) rfl rfl rfl sd sd ?_
    refine vo_stN ?_
    try simp only [app_ints, app_intss, app_bools]
    refine vo_assign_ref rfl rfl ?_
    refine vo_nil ?_
    refine hK18 _ ?_
    refine vc_region ?_
    refine vo_move_pv rfl rfl ?_
    refine vo_binI rfl rfl rfl rfl sd ?_
    refine vo_assign_pv rfl rfl ?_
    refine vo_nil ?_
    change again _ _ _ _ _ _
    refine again_mk rfl rfl rfl rfl ⟨_, ?_, k + 1, rfl, ?_, rfl, (congrArg (fun l => [Row.own 4 1 (some false) true ((m).map boolP), Row.own 3 1 (some false) true (List.map intP l)]) (show idxT m k ++ [((k : Nat) : Int)] = idxT m (k+1) by rw [idxT_succ, if_pos (by assumption)]))⟩
    ·omega
    ·omega
   ·try simp only [zq0, zq1, zq2, zq3, zq4, zq5, zq6, zq7, zq8, zq9, zqa, zqb, zqc, zqd, zqe, zqf] at hc5
    refine vc_skip ?_
    refine hK18 _ ?_
    refine vc_region ?_
    refine vo_move_pv rfl rfl ?_
    refine vo_binI rfl rfl rfl rfl sd ?_
    refine vo_assign_pv rfl rfl ?_
    refine vo_nil ?_
    change again _ _ _ _ _ _
    refine again_mk rfl rfl rfl rfl ⟨_, ?_, k + 1, rfl, ?_, rfl, (congrArg (fun l => [Row.own 4 1 (some false) true ((m).map boolP), Row.own 3 1 (some false) true (List.map intP l)]) (show idxT m k = idxT m (k+1) by rw [idxT_succ, if_neg (Bool.eq_false_iff.1 (by assumption))]))⟩
    ·omega
    ·omega
  ·try simp only [zq0, zq1, zq2, zq3, zq4, zq5, zq6, zq7, zq8, zq9, zqa, zqb, zqc, zqd, zqe, zqf] at hc4
   refine vc_exit ?_
   refine hK14 _ ?_
   refine vc_seq fun K20 hK20 => ?_
   refine vc_region ?_
   refine vo_move_ref rfl rfl ?_
   refine vo_assign_ref rfl rfl ?_
   refine vo_nil ?_
   refine hK20 _ ?_
   refine vc_ret ?_
   change retG _ _ _ _ _
   refine retG_one 1 hC rfl rfl rfl rfl rfl ?_
   exact ⟨_, rfl, rows_eq (g := intP) (by rw [abvL, idxB, abvB_len, ← hg, show (i+1).toNat = 0 by omega, show k = bases.length by omega]; rfl)⟩

end Go.Vl

namespace Go.Vl
set_option linter.unusedVariables false
set_option linter.unusedSimpArgs false
open Go.Proofs

end Go.Vl

namespace Go.Vl
set_option linter.unusedVariables false
set_option linter.unusedSimpArgs false
open Go.Proofs

theorem abvR_len {b : List (List Int)} {c : Int} {N : Nat} (h : b.length < N) : (abvR b c).length < N := by
  unfold abvR; split
  · exact Nat.lt_of_le_of_lt (abvL_len b _) h
  · simp; omega
theorem abvL_refl {b : List (List Int)} (hv : VB b) {c : Nat} (hc : c < b.length) : (c : Int) ∈ abvL b c := (mem_abvL hv.bd' hc _).2 ⟨c, rfl, .refl c⟩
def belR (b : List (List Int)) (c : Int) : List Int := if VB b ∧ 0 ≤ c ∧ c < b.length then belL b c.toNat else []
def OKLs (ls : List (List Int)) : Prop := (∀ l ∈ ls, OKL l 12) ∧ ls.length ≤ 6
instance {ls : List (List Int)} : Decidable (OKLs ls) := by unfold OKLs; infer_instance
def KeepP (long short : List Int) : Prop := OKL long 12 ∧ OKL short 12 ∧ kpN short long 0 = short.length
instance {a b : List Int} : Decidable (KeepP a b) := by unfold KeepP; infer_instance
def OC (b s : List (List Int)) : Prop := VS b s ∧ ∀ j, j < s.length → ∀ i, i < j → (s.getD i []).length > 0 → (s.getD j []).length > 0 → (i : Int) ∈ abvL b j
noncomputable instance {a b : List (List Int)} : Decidable (OC a b) := Classical.propDecidable _
theorem getD_at {α : Type} {l : List α} {j : Nat} (h : j < l.length) (d : α) : l.getD j d = l[j] := by simp [List.getD, List.getElem?_eq_getElem h]
end Go.Vl

namespace Go.Vl
set_option linter.unusedVariables false
set_option linter.unusedSimpArgs false
open Go.Proofs

theorem VB.take {b : List (List Int)} {k : Nat} (h : VB b) (h1 : 1 ≤ k) (h2 : k ≤ b.length) : VB (b.take k) := by
  obtain ⟨a1, a2, a3, a4⟩ := h
  have e : ∀ i, i < k → (b.take k).getD i [] = b.getD i [] := fun i hi => by simp [List.getD, List.getElem?_take, hi]
  have l : (b.take k).length = k := by rw [List.length_take]; omega
  exact ⟨by omega, by omega, by rw [e 0 (by omega)]; exact a3, fun i hi h0 => by rw [e i (by omega)]; exact a4 i (by omega) h0⟩
theorem set_lens {B : List (List Int)} {l : List Int} {i N : Nat} (h : ∀ x ∈ B, x.length ≤ N) (hl : l.length ≤ N) : ∀ x ∈ B.set i l, x.length ≤ N := by
  intro x hx
  rcases List.mem_or_eq_of_mem_set hx with hx | rfl
  · exact h x hx
  · exact hl
theorem app_lens {B : List (List Int)} {l : List Int} {N : Nat} (h : ∀ x ∈ B, x.length ≤ N) (hl : l.length ≤ N) : ∀ x ∈ B ++ [l], x.length ≤ N := by
  intro x hx
  rcases List.mem_append.1 hx with hx | hx
  · exact h x hx
  · rw [List.mem_singleton.1 hx]; exact hl

end Go.Vl

namespace Go.Vl
set_option linter.unusedVariables false
set_option linter.unusedSimpArgs false
open Go.Proofs

end Go.Vl

namespace Go.Vl
set_option linter.unusedVariables false
set_option linter.unusedSimpArgs false
open Go.Proofs
end Go.Vl

namespace Go.Vl
set_option linter.unusedVariables false
set_option linter.unusedSimpArgs false
open Go.Proofs
end Go.Vl

namespace Go.Vl
set_option linter.unusedVariables false
set_option linter.unusedSimpArgs false
open Go.Proofs
end Go.Vl

namespace Go.Vl
set_option linter.unusedVariables false
set_option linter.unusedSimpArgs false
open Go.Proofs
theorem tot_le {K : Nat} : ∀ {ls : List (List Int)}, (∀ l ∈ ls, l.length ≤ K) → tot ls ≤ ls.length * K
  | [], _ => Nat.zero_le _
  | a :: r, h => by
    have h1 := tot_le (ls := r) (fun l hl => h l (List.mem_cons_of_mem _ hl))
    have h2 := h a List.mem_cons_self
    simp only [tot, List.map_cons, List.sum_cons, List.length_cons, Nat.add_mul] at h1 ⊢
    omega
theorem OKLs.tot {ls : List (List Int)} (h : OKLs ls) : tot ls < 1000000000 := by
  have h1 := tot_le (K := 12) (ls := ls) (fun l hl => by have := (h.1 l hl).1; omega)
  have := h.2
  omega
def mgOK (ls : List (List Int)) : Prop := OKLs ls ∧ hds (mergeM ls).2 = []
instance {ls : List (List Int)} : Decidable (mgOK ls) := by unfold mgOK; infer_instance
def mgR (ls : List (List Int)) : List Int := if mgOK ls then (mergeM ls).1 else []
def skR (ls : List (List Int)) : List Int := if OKLs ls then onceF [] (hds (mergeM ls).2) else []
theorem eachOnce_sat {nl0 : Option Bool} {list : List Int} (hlist : list.length < 1000000000)  : SatAt Try.prog 93 [.pv false (.sl nl0 1 (list.map intP))] [] (fun res rows => ∃ nl, res = [.ref 0] ∧ rows = [Row.own 3 1 nl true ((onceF [] list).map intP)]) := by
 refine sat_entry_g (ts := [2]) Try.func93 rfl rfl (by decide) (Nat.le_of_ble_eq_true rfl) fun C hC => ?_
 rw [Try.ntmps93]
 replace hC : C.nb = 0 := hC
 refine vc_seq fun K1 hK1 => ?_
 refine vc_region ?_
 refine vo_assign_pv rfl rfl ?_
 refine vo_nil ?_
 refine hK1 _ ?_
 refine vc_seq fun K2 hK2 => ?_
 refine vc_region ?_
 refine vo_assign_pv rfl rfl ?_
 refine vo_nil ?_
 refine hK2 _ ?_
 refine vc_seq fun K3 hK3 => ?_
 refine vc_seq fun K4 hK4 => ?_
 refine vc_region ?_
 refine vo_move_pv rfl rfl ?_
 refine vo_len_pv rfl rfl Try.underlying24 ?_
 refine vo_move_pv rfl rfl ?_
 refine vo_nil ?_
 refine hK4 _ ?_
 refine vc_block ?_
 refine vc_own_nil 3 E24 rfl ?_
 refine vc_stN ?_
 refine vc_loop [3, 6, 7, 8] (fun mz vs rows => ∃ (k : Nat) (acc : List Int), mz = list.length - k ∧ (k ≤ list.length) ∧ (onceF acc (list.drop k) = onceF [] list) ∧ (acc.length ≤ k) ∧ vs = [.ref 0, .pv false (.sl nl0 1 (list.map intP)), i64 (list.map intP).length, i64 k] ∧ rows = [Row.own 3 1 none true ((acc).map intP)]) (list.length) (le_len hC rfl) ⟨rfl, rfl⟩ ⟨0, [], rfl, Nat.zero_le _, rfl, (Nat.zero_le _), rfl, rfl⟩ ?_
 rintro mz vs rows - - ⟨k, acc, rfl, hk, hf, hl, rfl, rfl⟩
 refine vc_seq fun K5 hK5 => ?_
 refine vc_region ?_
 refine vo_binI rfl rfl rfl rfl trivial ?_
 refine vo_nil ?_
 refine hK5 _ ?_
 refine vc_seq fun K6 hK6 => ?_
 refine vc_cond rfl (fun hc1 => ?_) (fun hc1 => ?_)
 ·try simp only [zq0, zq1, zq2, zq3, zq4, zq5, zq6, zq7, zq8, zq9, zqa, zqb, zqc, zqd, zqe, zqf] at hc1
  refine vc_skip ?_
  refine hK6 _ ?_
  refine vc_seq fun K7 hK7 => ?_
  refine vc_block ?_
  refine vc_seq fun K8 hK8 => ?_
  refine vc_region ?_
  refine vo_index_pv (.int .i64 0) rfl rfl rfl E24.und inf3 sz3 sd sd ?_
  simp only [Int.toNat_natCast, Int.toNat_zero, getD_ints, getD_intss, getD_bools, getD_bytes, PV.cells]
  refine vo_load_adr rfl rfl Try.underlying3 rfl ?_
  refine vo_assign_pv rfl rfl ?_
  refine vo_nil ?_
  refine hK8 _ ?_
  refine vc_seq fun K9 hK9 => ?_
  refine vc_region ?_
  refine vo_move_ref rfl rfl ?_
  refine vo_move_pv rfl rfl ?_
  refine vo_call0 Try.func82 rfl rfl rfl rfl (Contains_sat (by omega)) ?_
  rintro _ _ ⟨rfl, rfl⟩
  refine ⟨rfl, rfl, .inr rfl, ?_⟩
  refine vo_not rfl rfl ?_
  refine vo_nil ?_
  refine hK9 _ ?_
  refine vc_cond rfl (fun hc2 => ?_) (fun hc2 => ?_)
  ·try simp only [zq0, zq1, zq2, zq3, zq4, zq5, zq6, zq7, zq8, zq9, zqa, zqb, zqc, zqd, zqe, zqf] at hc2
   refine vc_region ?_
   refine vo_move_ref rfl rfl ?_
   refine vo_move_pv rfl rfl ?_
   refine vo_buildSlice E24 rfl rfl rfl rfl rfl ?_
   refine vo_append E24 rfl (by omega) rfl rfl rfl sd sd ?_
   refine vo_stN ?_
   try simp only [app_ints, app_intss, app_bools]
   refine vo_assign_ref rfl rfl ?_
   refine vo_nil ?_
   refine hK7 _ ?_
   refine vc_region ?_
   refine vo_binI rfl rfl rfl rfl sd ?_
   refine vo_move_pv rfl rfl ?_
   refine vo_nil ?_
   change again _ _ _ _ _ _
   refine again_mk rfl rfl rfl rfl ⟨_, ?_, k + 1, acc ++ [list.getD k 0], rfl, ?_, ?_, ?_, rfl, rfl⟩
   ·omega
   ·omega
   ·exact ((onceF_drop acc list k (by omega)).trans (by rw [if_neg hc2])).symm.trans hf
   ·rw [List.length_append, List.length_singleton]; omega
  ·try simp only [zq0, zq1, zq2, zq3, zq4, zq5, zq6, zq7, zq8, zq9, zqa, zqb, zqc, zqd, zqe, zqf] at hc2
   refine vc_skip ?_
   refine hK7 _ ?_
   refine vc_region ?_
   refine vo_binI rfl rfl rfl rfl sd ?_
   refine vo_move_pv rfl rfl ?_
   refine vo_nil ?_
   change again _ _ _ _ _ _
   refine again_mk rfl rfl rfl rfl ⟨_, ?_, k + 1, acc, rfl, ?_, ?_, ?_, rfl, rfl⟩
   ·omega
   ·omega
   ·exact ((onceF_drop acc list k (by omega)).trans (by rw [if_pos hc2])).symm.trans hf
   ·omega
 ·try simp only [zq0, zq1, zq2, zq3, zq4, zq5, zq6, zq7, zq8, zq9, zqa, zqb, zqc, zqd, zqe, zqf] at hc1
  refine vc_exit ?_
  refine hK3 _ ?_
  refine vc_seq fun K10 hK10 => ?_
  refine vc_region ?_
  refine vo_move_ref rfl rfl ?_
  refine vo_assign_ref rfl rfl ?_
  refine vo_nil ?_
  refine hK10 _ ?_
  refine vc_ret ?_
  change retG _ _ _ _ _
  refine retG_one 0 hC rfl rfl rfl rfl rfl ?_
  exact ⟨_, rfl, rows_eq (g := intP) (by rw [← hf, List.drop_of_length_le (by omega)]; rfl)⟩

end Go.Vl

namespace Go.Vl
set_option linter.unusedVariables false
set_option linter.unusedSimpArgs false
open Go.Proofs
end Go.Vl

namespace Go.Vl
set_option linter.unusedVariables false
set_option linter.unusedSimpArgs false
open Go.Proofs

end Go.Vl

namespace Go.Vl
set_option linter.unusedVariables false
set_option linter.unusedSimpArgs false
open Go.Proofs
/-- Orders. -/
def ordL (o : List (List Int)) (l : List Int) : List (List Int) := l.map (fun x => o.getD x.toNat [])
def ordS (o : List (List Int)) (l : List Int) (c : Int) : List Int :=
  if ∃ x ∈ l, o.getD x.toNat [] = [] then [] else if hds (mergeM (ordL o l ++ [l])).2 = [] then c :: (mergeM (ordL o l ++ [l])).1 else []
def ordT (b : List (List Int)) : Nat → List (List Int)
  | 0 => []
  | n+1 => ordT b n ++ [ordS (ordT b n) (b.getD n []) n]
def ordM (b : List (List Int)) (c : Nat) : List Int := ordS (ordT b c) (b.getD c []) c
def OKord (o : List Int) (c : Nat) : Prop := o.Nodup ∧ ∀ x ∈ o, 0 ≤ x ∧ x ≤ c
theorem pig : ∀ (n : Nat) (o : List Int), o.Nodup → (∀ x ∈ o, 0 ≤ x ∧ x < n) → o.length ≤ n
  | 0, [], _, _ => Nat.le_refl _
  | 0, x :: o, _, h => by have := h x List.mem_cons_self; omega
  | n+1, o, h, hx => by
    by_cases hm : (n : Int) ∈ o
    · have h1 := pig n (o.erase n) (h.erase _) fun x h2 => by
        obtain ⟨h3, h4⟩ := (h.mem_erase_iff).1 h2
        have := hx x h4
        omega
      rw [List.length_erase_of_mem hm] at h1
      omega
    · have h1 := pig n o h fun x h2 => by
        have := hx x h2
        have : x ≠ n := fun e => hm (e ▸ h2)
        omega
      omega
theorem VB.at {b : List (List Int)} (h : VB b) {c : Nat} (hc : c < b.length) : (b.getD c []).length ≤ 4 ∧ (b.getD c []).Nodup ∧ ∀ x ∈ b.getD c [], 0 ≤ x ∧ x ≤ (c : Int) - 1 := ((vb_iff b).1 h).2 c hc |>.2
end Go.Vl

namespace Go.Vl
set_option linter.unusedVariables false
set_option linter.unusedSimpArgs false
open Go.Proofs
end Go.Vl

namespace Go.Vl
set_option linter.unusedVariables false
set_option linter.unusedSimpArgs false
open Go.Proofs
abbrev ordP (l : List Int) : PV := .sl (some l.isEmpty) 1 (l.map intP)
def orOK (b : List (List Int)) (c : Int) : Prop := (VB b ∧ 0 ≤ c ∧ c < b.length) ∧ ordM b c.toNat ≠ []
instance {b : List (List Int)} {c : Int} : Decidable (orOK b c) := by unfold orOK; infer_instance
def orR (b : List (List Int)) (c : Int) : List Int := if orOK b c then ordM b c.toNat else []
end Go.Vl

namespace Go.Vl
set_option linter.unusedVariables false
set_option linter.unusedSimpArgs false
open Go.Proofs
end Go.Vl

namespace Go.Vl
set_option linter.unusedVariables false
set_option linter.unusedSimpArgs false
open Go.Proofs

end Go.Vl

namespace Go.Vl
set_option linter.unusedVariables false
set_option linter.unusedSimpArgs false
open Go.Proofs

theorem copyInts_sat {nl0 : Option Bool} {list : List Int} (hlist : list.length < 1000000000)  : SatAt Try.prog 97 [.pv false (.sl nl0 1 (list.map intP))] [] (fun res rows => ∃ nl, res = [.ref 0] ∧ rows = [Row.own 3 1 nl true ((list).map intP)]) := by
 refine sat_entry_g (ts := [2]) Try.func97 rfl rfl (by decide) (Nat.le_of_ble_eq_true rfl) fun C hC => ?_
 rw [Try.ntmps97]
 replace hC : C.nb = 0 := hC
 refine vc_seq fun K1 hK1 => ?_
 refine vc_region ?_
 refine vo_assign_pv rfl rfl ?_
 refine vo_nil ?_
 refine hK1 _ ?_
 refine vc_seq fun K2 hK2 => ?_
 refine vc_region ?_
 refine vo_buildSlice E24 rfl rfl rfl rfl rfl ?_
 refine vo_move_pv rfl rfl ?_
 refine vo_append E24 rfl (by omega) rfl rfl rfl sd sd ?_
 refine vo_stN ?_
 try simp only [app_ints, app_intss, app_bools]
 refine vo_clean 0 rfl (scal_ints _) ?_
 refine vo_stN ?_
 refine vo_assign_ref rfl rfl ?_
 refine vo_nil ?_
 refine hK2 _ ?_
 refine vc_ret ?_
 change retG _ _ _ _ _
 refine retG_one 0 hC rfl rfl rfl rfl rfl ?_
 exact ⟨_, rfl, rfl⟩


theorem cloneI_sat {nl0 : Option Bool} {s : List Int} (hs : s.length < 1000000000)  : SatAt Try.prog 94 [.pv false (.sl nl0 1 (s.map intP))] [] (fun res rows => ∃ nl, res = [.ref 0] ∧ rows = [Row.own 3 1 nl true ((s).map intP)]) := by
 refine sat_entry_g (ts := [2]) Try.func94 rfl rfl (by decide) (Nat.le_of_ble_eq_true rfl) fun C hC => ?_
 rw [Try.ntmps94]
 replace hC : C.nb = 0 := hC
 refine vc_seq fun K1 hK1 => ?_
 refine vc_region ?_
 refine vo_assign_pv rfl rfl ?_
 refine vo_nil ?_
 refine hK1 _ ?_
 refine vc_seq fun K2 hK2 => ?_
 refine vc_seq fun K3 hK3 => ?_
 refine vc_region ?_
 refine vo_move_pv rfl rfl ?_
 refine vo_eqnil rfl rfl Try.underlying24 fun bn1 hn1 hnt1 hnf1 => ?_
 refine vo_nil ?_
 refine hK3 _ ?_
 refine vc_cond rfl (fun hc1 => ?_) (fun hc1 => ?_)
 ·try simp only [zq0, zq1, zq2, zq3, zq4, zq5, zq6, zq7, zq8, zq9, zqa, zqb, zqc, zqd, zqe, zqf] at hc1
  have hnil : s = [] := by have := hn1 hc1; simpa using this
  subst hnil
  refine vc_seq fun K4 hK4 => ?_
  refine vc_region ?_
  refine vo_assign_pv rfl rfl ?_
  refine vo_nil ?_
  refine hK4 _ ?_
  refine vc_own_nil 2 E24 rfl ?_
  refine vc_ret ?_
  change retG _ _ _ _ _
  refine retG_one 0 hC rfl rfl rfl rfl rfl ?_
  exact ⟨_, rfl, rfl⟩
 ·try simp only [zq0, zq1, zq2, zq3, zq4, zq5, zq6, zq7, zq8, zq9, zqa, zqb, zqc, zqd, zqe, zqf] at hc1
  refine vc_skip ?_
  refine hK2 _ ?_
  refine vc_seq fun K5 hK5 => ?_
  refine vc_region ?_
  refine vo_buildSlice E24 rfl rfl rfl rfl rfl ?_
  refine vo_move_pv rfl rfl ?_
  refine vo_append E24 rfl (by omega) rfl rfl rfl sd sd ?_
  refine vo_stN ?_
  try simp only [app_ints, app_intss, app_bools]
  refine vo_clean 0 rfl (scal_ints _) ?_
  refine vo_stN ?_
  refine vo_assign_ref rfl rfl ?_
  refine vo_nil ?_
  refine hK5 _ ?_
  refine vc_ret ?_
  change retG _ _ _ _ _
  refine retG_one 0 hC rfl rfl rfl rfl rfl ?_
  exact ⟨_, rfl, rfl⟩

end Go.Vl

/- From a function's contract to the row of a law over bytes. -/
namespace Go.Vl
set_option linter.unusedVariables false
set_option linter.unusedSimpArgs false
open Go.RowKit Go.WideShapes

theorem okWide_spot {P : Program} {W : World} {base : Nat} {t e : TypeId} {a : Addr} {len cap : Nat} (hT : P.underlying t = some (.slice e)) (h : Value.okWide P W .any base t (.slice (some a) len cap)) :
    a.spot = none ∧ a.block < W.heap.size := by
  simp only [Value.okWide, hT, Cell.okWide, Cell.ok, World.has] at h
  obtain ⟨_, _, _, h1, row, cells, h2, _⟩ := h
  refine ⟨h1, ?_⟩
  unfold World.shape? at h2
  rcases Nat.lt_or_ge a.block W.heap.size with h3 | h3
  · exact h3
  · rw [Array.getElem?_eq_none h3] at h2; cases h2

/-- What is known of bytes that come in. -/
def BytesAt (w : World) (a0 : Option Addr) (len cap : Nat) : Prop :=
  (a0 = none ∧ len = 0 ∧ cap = 0) ∨ ∃ (x : Addr) (zs : List Int), a0 = some x ∧ x.spot = none ∧ x.block < w.heap.size ∧ len ≤ cap ∧ zs.length = cap ∧
    (∀ i, i < zs.length → w.cell? (x.add i) = some (.int .u8 (zs.getD i 0))) ∧ ∀ n ∈ zs, (Lit.int .u8 n).wf = true

theorem bytes_pv {w : World} {a0 : Option Addr} {len cap : Nat} {G : Nat → Prop} (hG : ∀ b, b < w.heap.size → G b) (h : BytesAt w a0 len cap) :
    ∃ (nl : Option Bool) (c : List (Fin 256)), RP w G (.sl nl 1 (c.map byteP)) (.slice a0 len cap) := by
  rcases h with ⟨rfl, rfl, rfl⟩ | ⟨x, zs, rfl, hs, hb, hl, hz, hc, hw⟩
  · exact ⟨none, [], .nilsl _ _ (by simp)⟩
  · have hbd : ∀ i, i < zs.length → 0 ≤ zs.getD i 0 ∧ zs.getD i 0 < 256 := by
      intro i hi
      have hm : zs.getD i 0 ∈ zs := by simp [List.getD, List.getElem?_eq_getElem hi]
      have := hw _ hm
      generalize zs.getD i 0 = n at this ⊢
      simp [Lit.wf, IntKind.min, IntKind.max, IntKind.bits, IntKind.signed] at this
      omega
    let c : List (Fin 256) := (List.range len).map fun i => ⟨(zs.getD i 0).toNat % 256, Nat.mod_lt _ (by omega)⟩
    refine ⟨none, c, .sl none 1 _ x len cap (fun i _ => .int .u8 (zs.getD i 0)) (by simp) (fun _ => hs) (by simp [c]) hl (fun _ => hG _ hb) ?_ ?_ ?_⟩
    · intro i y hy
      simp only [List.getElem?_map] at hy
      cases hci : c[i]? with
      | none => rw [hci] at hy; simp at hy
      | some z =>
        rw [hci] at hy
        simp only [Option.map_some, Option.some.injEq] at hy
        subst hy
        exact fits_of rfl
    · intro i y j d hy hd
      simp only [List.getElem?_map] at hy
      cases hci : c[i]? with
      | none => rw [hci] at hy; simp at hy
      | some z =>
        rw [hci] at hy
        simp only [Option.map_some, Option.some.injEq] at hy
        subst hy
        have hi : i < len := by
          rcases Nat.lt_or_ge i len with h1 | h1
          · exact h1
          · have : c[i]? = none := List.getElem?_eq_none (by simp [c]; exact h1)
            rw [this] at hci; cases hci
        have hj : j = 0 := by
          cases j with
          | zero => rfl
          | succ j => simp [PV.cells] at hd
        subst hj
        have := hc i (by omega)
        rw [← this]
        congr 1
        obtain ⟨xb, xo, xs⟩ := x
        simp only at hs
        subst hs
        simp [Addr.add]
    · intro i y j d hy hd
      simp only [List.getElem?_map] at hy
      cases hci : c[i]? with
      | none => rw [hci] at hy; simp at hy
      | some z =>
        rw [hci] at hy
        simp only [Option.map_some, Option.some.injEq] at hy
        subst hy
        have hi : i < len := by
          rcases Nat.lt_or_ge i len with h1 | h1
          · exact h1
          · have : c[i]? = none := List.getElem?_eq_none (by simp [c]; exact h1)
            rw [this] at hci; cases hci
        have hj : j = 0 := by
          cases j with
          | zero => rfl
          | succ j => simp [PV.cells] at hd
        subst hj
        have hd2 : d = byteP z := by simpa [PV.cells] using hd.symm
        subst hd2
        have hz2 : ((z.val : Nat) : Int) = zs.getD i 0 := by
          have e : c[i]? = some ⟨(zs.getD i 0).toNat % 256, Nat.mod_lt _ (by omega)⟩ := by simp [c, hi]
          rw [e] at hci
          simp only [Option.some.injEq] at hci
          have hb := hbd i (by omega)
          rw [← hci]
          show (((zs.getD i 0).toNat % 256 : Nat) : Int) = _
          omega
        rw [← hz2]
        exact .int _ _

end Go.Vl

/- From a function's contract to the row of a law over lists of numbers, and numbers. -/
namespace Go.Vl
set_option linter.unusedVariables false
set_option linter.unusedSimpArgs false
open Go.RowKit Go.WideShapes Go.ChangeShapes

/-- The setting of a law's call. -/
def C0 (w : World) : Ctx := ⟨w, fun b => b < w.heap.size, 0, fun _ => default⟩
def G0 (w : World) : Bool → Nat → Prop := Gd (C0 w) [] (fun _ => default) w
theorem G0_of {w : World} {b : Nat} (h : b < w.heap.size) : G0 w false b := by
  refine ⟨h, ?_, fun _ => .inl h, fun e => by cases e⟩
  rintro ⟨id, ⟨r, hr, _⟩, _⟩
  simp at hr

theorem law_gen {P : Program} {f : FuncId} {w : World} {args : List SV} {vals : Array Value} (hl : vals.size = args.length)
    (hv : ∀ (j : Nat) (a : SV), args[j]? = some a → RS w (G0 w) (fun _ => default) 0 a (vals.getD j undef))
    (h : SatAt P f args [] (fun res rows => res = [bo true] ∧ rows = [])) :
    Calls P f vals w fun e w' => e = .returned (.bool true) ∧ Below w.heap.size w w' := by
  have hsim : SimM (C0 w) ⟨vals.size, enumE 0 args, []⟩ (fun _ => default) ⟨vals, []⟩ w := {
    defs := rfl
    size := rfl
    os := rfl
    tape := rfl
    output := rfl
    hsz := Nat.le_refl _
    old := fun _ _ _ => rfl
    bor := fun id hid => by cases hid
    nbl := Nat.zero_le _
    newb := fun id b _ ⟨r, hr, _⟩ => by simp at hr
    dist := fun i j b ⟨r, hr, _⟩ => by simp at hr
    rows := fun id r hr => by simp at hr
    env := fun t => by
      show RS _ _ _ _ (look (enumE 0 _) t) _
      rw [look_enumE]
      simp only [Nat.zero_le, if_true, Nat.sub_zero]
      cases ha : args[t]? with
      | none => exact .any _
      | some a => exact hv t a ha }
  refine (h (C0 w) (fun _ => default) vals rfl (fun b hb => hb) hl hsim).mono fun e w' hx => ?_
  obtain ⟨us, res, rows', m', rfl, hus, hs, rfl, rfl⟩ := hx
  have hv := hs.env 0
  have h1 : us.size = 1 := hus
  refine ⟨?_, hs.os, hs.tape, hs.output, hs.hsz, fun k hk => hs.old k hk (fun id hid => by cases hid)⟩
  have hv : RS w' (Gd (C0 w) [] m' w') m' 0 (bo true) (us.getD 0 undef) := hv
  have hb := hv.pv_inv
  unfold pack
  rw [dif_pos h1]
  simp only [Array.getD, h1, Nat.lt_succ_self, dif_pos, Nat.zero_lt_one] at hb
  cases hu : us[0]
  all_goals (simp only [Array.getInternal_eq_getElem, hu] at hb; cases hb)
  rfl

section
variable {H : Type} {enc : TypeId × Value → H} {P : Program} {w : World} {base : Nat} {held : Bool}
end
end Go.Vl

/- Arguments of any type of numbers, truth values, slices and structs, opened by their types. -/
namespace Go.Vl
set_option linter.unusedVariables false
set_option linter.unusedSimpArgs false
open Go.RowKit Go.ChangeShapes Go.WideShapes Go.ChangeAt

/-- A value of the type reads as one of the values that pv tells. -/
def Opens (P : Program) (t : TypeId) (k : Nat) {α : Type} (pv : α → PV) (good : α → Prop) : Prop :=
  ∀ (H : Type) (enc : TypeId × Value → H) (w : World) (base : Nat) (held : Bool) (fuel : Nat) (cs : List Value) (x : DataW H × List MemPlace), DataW.trod enc P w base (fun _ => true) held fuel t cs = some x →
    ∃ a, good a ∧ (pv a).fits k ∧ cs.length = k ∧ ∀ (j : Nat) (c : PV) (v : Value), (pv a).cells[j]? = some c → cs[j]? = some v → RP w (G0 w false) c v

def i64R (n : Int) : Prop := -9223372036854775808 ≤ n ∧ n ≤ 9223372036854775807

/-- A struct, field by field, from a place on. -/
def OpenF (P : Program) (off : Nat) (fs : List Field) (k : Nat) {α : Type} (cells : α → List PV) (good : α → Prop) : Prop :=
  ∀ (H : Type) (enc : TypeId × Value → H) (w : World) (base : Nat) (held : Bool) (fuel : Nat) (cs : List Value),
    (∀ (i : Nat) (f : Field), fs[i]? = some f → ∃ x, DataW.trod enc P w base (fun _ => true) held fuel f.type ((cs.drop f.offset).take (P.cellsOf f.type)) = some x) →
    ∃ a, good a ∧ (cells a).length = k ∧ (∀ c ∈ cells a, c.isAgg = false) ∧ ∀ (j : Nat) (c : PV) (v : Value), (cells a)[j]? = some c → ((cs.drop off).take k)[j]? = some v → RP w (G0 w false) c v

/-- The value of an argument of one cell. -/
theorem Opens.one {P : Program} {t : TypeId} {α : Type} {pv : α → PV} {good : α → Prop} (h : Opens P t 1 pv good) (hna : ∀ a, (pv a).cells = [pv a]) {H : Type} {enc : TypeId × Value → H} {w : World} {base : Nat} {held : Bool} {v : Value} {d : DataW H} {ps : List MemPlace} (hv : v.cells.toList = [v])
    (hd : DataW.Trod enc P w base (fun _ => true) held t v d ps) : ∃ a, good a ∧ RP w (G0 w false) (pv a) v := by
  obtain ⟨fuel, hf⟩ := hd
  rw [hv] at hf
  obtain ⟨a, g1, g2, g3, g4⟩ := h H enc w base held fuel _ _ hf
  exact ⟨a, g1, g4 0 _ _ (by rw [hna]; rfl) rfl⟩

/-- The value of an argument that is a struct. -/
theorem Opens.agg {P : Program} {t k : Nat} {α : Type} {cells : α → List PV} {good : α → Prop} (h : Opens P t k (fun a => .agg (cells a)) good) {H : Type} {enc : TypeId × Value → H} {w : World} {base : Nat} {held : Bool} {cs : Array Value} {d : DataW H} {ps : List MemPlace}
    (hd : DataW.Trod enc P w base (fun _ => true) held t (.agg cs) d ps) : ∃ a, good a ∧ RP w (G0 w false) (.agg (cells a)) (.agg cs) := by
  obtain ⟨fuel, hf⟩ := hd
  obtain ⟨a, g1, g2, g3, g4⟩ := h H enc w base held fuel _ _ hf
  refine ⟨a, g1, .agg _ _ ?_ (fun j c hc => g2.2 j c hc) (fun j c v hc hv => g4 j c v hc ?_)⟩
  · have h1 : (cells a).length = k := g2.1
    have h2 : cs.toList.length = k := g3
    rw [h1, ← h2]; simp
  · show cs.toList[j]? = some v
    simpa using hv
end Go.Vl

namespace Go.Vl
set_option linter.unusedVariables false
set_option linter.unusedSimpArgs false
open Go.Proofs

structure OpM where
  who : Int
  name : Int
  value : Int
  gone : Bool
  deriving Inhabited, DecidableEq
abbrev opP (o : OpM) : PV := .agg [.int .i64 o.who, .int .i64 o.name, .int .i64 o.value, .bool o.gone]
abbrev pairP (p : Int × Int) : PV := .agg [.int .i64 p.1, .int .i64 p.2]
structure InstM where
  shares : Bool
  order : List Int
  values : List Int
  own : List (Int × Int)
  deriving Inhabited, DecidableEq
abbrev instP (x : InstM) : PV := .agg [.bool x.shares, .sl none 1 (x.order.map intP), .sl none 1 (x.values.map intP), .sl none 2 (x.own.map pairP)]
structure HeapM where
  keys : List Int
  insts : List InstM
  deriving Inhabited, DecidableEq
abbrev heapP (h : HeapM) : PV := .agg [.sl none 1 (h.keys.map intP), .sl none 4 (h.insts.map instP)]
theorem getD_map0 {α β : Type} (f : α → β) (l : List α) (k : Nat) (d : α) (d' : β) (h : f d = d') : (l.map f).getD k d' = f (l.getD k d) := by
  subst h
  simp only [List.getD, List.getElem?_map]
  cases l[k]? <;> rfl
theorem getD_pairs (l : List (Int × Int)) (k : Nat) : (l.map pairP).getD k (.agg [.int .i64 0, .int .i64 0]) = pairP (l.getD k (0, 0)) := getD_map0 pairP l k (0, 0) _ rfl
/-- A copy that is under way. -/
def cpy {α : Type} (d : α) (l : List α) (k : Nat) : List α := l.take k ++ List.replicate (l.length - k) d
theorem take_eqS {α : Type} {a b : List α} {k : Nat} (d : α) (h : k < a.length) (hb : k < b.length) : a.take (k+1) = b.take (k+1) ↔ a.take k = b.take k ∧ a.getD k d = b.getD k d := by
  have ha : a.take (k+1) = a.take k ++ [a.getD k d] := by rw [List.take_add_one, List.getD, List.getElem?_eq_getElem h]; rfl
  have hbb : b.take (k+1) = b.take k ++ [b.getD k d] := by rw [List.take_add_one, List.getD, List.getElem?_eq_getElem hb]; rfl
  rw [ha, hbb]
  constructor
  · intro he
    have := List.append_inj he (by simp; omega)
    exact ⟨this.1, by simpa using this.2⟩
  · rintro ⟨h1, h2⟩; rw [h1, h2]
def okOp (o : OpM) : Prop := (0 ≤ o.who ∧ o.who ≤ 3) ∧ (0 ≤ o.name ∧ o.name ≤ 9) ∧ (0 ≤ o.value ∧ o.value ≤ 99)
instance (o : OpM) : Decidable (okOp o) := by unfold okOp; exact inferInstance
def VOps (l : List OpM) : Prop := l.length ≤ 40 ∧ ∀ o ∈ l, okOp o
instance (l : List OpM) : Decidable (VOps l) := by unfold VOps; exact inferInstance

end Go.Vl

/- A cell of a variable that holds a nil slice holds a row of the call's own that is empty. -/
namespace Go.Vl
set_option linter.unusedVariables false
set_option linter.unusedSimpArgs false
open Go.RowKit
section
variable {P : Program} {C : Ctx} {Q : Go.Exit → St → Prop} {s : St} {ops : Array Oper}

end
end Go.Vl

/- Cells of rows whose slices are their own: a plain one is written; a slice in one is lent to a function, which may write it. -/
namespace Go.Vl
set_option linter.unusedVariables false
set_option linter.unusedSimpArgs false
open Go.RowKit

section
variable {P : Program} {C : Ctx} {Q : Go.Exit → St → Prop} {s : St} {ops : Array Oper} {rest : List Oper} {t : Nat} {ty : TypeId} {pos : String} {af : Array Edge}

end
end Go.Vl

/- Numbers that are written into the cells of lists, one by one (pure). -/
namespace Go.Vl
set_option linter.unusedVariables false
set_option linter.unusedSimpArgs false

def mkS {α : Type} (f : Int → α → α) (g : Int → α → Int) : Int → List α → List α
  | _, [] => []
  | k, x :: r => f k x :: mkS f g (g k x) r
def mkN {α : Type} (g : Int → α → Int) : Int → List α → Int
  | k, [] => k
  | k, x :: r => mkN g (g k x) r
section
variable {α : Type} {f : Int → α → α} {g : Int → α → Int}
end
end Go.Vl
namespace Go.Vl
end Go.Vl

/- More operations: the room of a nil slice, 'append(nil, make(..)...)', cells that hold a function. -/
namespace Go.Vl
set_option linter.unusedVariables false
set_option linter.unusedSimpArgs false
open Go.RowKit
section
variable {P : Program} {C : Ctx} {Q : Go.Exit → St → Prop} {s : St}
variable {ops : Array Oper} {rest : List Oper} {t : Nat} {ty : TypeId} {pos : String} {af : Array Edge}

def goneL (xs : List PV) : List PV := xs.map fun _ => .gone
end
end Go.Vl

/- Calls by any operation that enters a function: by name, through an interface, of a value. -/
namespace Go.Vl
set_option linter.unusedVariables false
set_option linter.unusedSimpArgs false
open Go.RowKit
section
variable {P : Program} {C : Ctx} {Q : Go.Exit → St → Prop} {s : St}

/-- An operation that enters a function, by what that hands back; 'bs' are the rows that it may write. -/
theorem ow_callA {op : Op} {t : Nat} {ty : TypeId} {pos : String} {af : Array Edge} {gd : Option (Nat × Bool)} {f : FuncId} {va : Array Value} {sa : List SV} {args : List SV} {R : List SV → List Row → Prop} (bs : List Nat)
    {brows : List Row} {m : Nat → MV} {a : Act} {w : World} {K : Act → World → Prop} {Q' : Go.Exit → Act → World → Prop} (hs : SimM C s m a w)
    (hrun : (execOp a.eval ⟨some t, op, ty, pos, af, gd⟩).run P w = .ok (.enter f va) w) (hva : va.size = sa.length)
    (hvs : ∀ (u : Nat) (x : SV), sa[u]? = some x → RS w (Gd C s.rows m w) m s.rows.length x (va.getD u undef)) (ht : Nat.blt t s.n = true)
    (hb1 : bs.map (fun id => (s.rows[id]?).map Row.toArg) = brows.map some) (hb2 : brows.all Row.live = true) (hb3 : bs.map (placeOf bs) = (List.range bs.length).map some)
    (hargs : sa.mapM (argOfB bs s.rows) = some args) (hsat : SatAt P f args brows R)
    (next : ∀ res rows', R res rows' → bs.length ≤ rows'.length ∧ (res.all SV.noTup = true ∧ rows'.all (Row.bdd 0) = true ∧ (rows'.take bs.length).all Row.live = true ∧ rows'.all Row.noGh = true) ∧
      ((sa.any (SV.isKept bs) = false) ∨ (res.all SV.fresh = true ∧ rows'.all Row.fresh = true)) ∧
      ∀ m' a' w', SimM C ⟨s.n, (t, packS (res.map (SV.shift bs s.rows.length))) :: s.env, rowsAfter bs s.rows rows'⟩ m' a' w' → w.heap.size ≤ w'.heap.size →
        (∀ k, k < w.heap.size → (∀ (q id : Nat), bs[q]? = some id → ¬ (m id).S k) → w'.heap[k]? = w.heap[k]?) → K a' w') :
    Oper.wp P ⟨some t, op, ty, pos, af, gd⟩ a w K Q' := by
  unfold Oper.wp
  rw [hrun, Oper.upon_enter]
  have hbrow : ∀ (q id : Nat), bs[q]? = some id → ∃ r, s.rows[id]? = some r ∧ brows[q]? = some r.toArg ∧ r.live = true := by
    intro q id hq
    have h1 : (bs.map (fun id => (s.rows[id]?).map Row.toArg))[q]? = (brows.map some)[q]? := by rw [hb1]
    simp only [List.getElem?_map, hq, Option.map_some] at h1
    cases hr : s.rows[id]? with
    | none =>
      rw [hr] at h1
      cases hq2 : brows[q]? with
      | none => rw [hq2] at h1; simp at h1
      | some r2 => rw [hq2] at h1; simp at h1
    | some r =>
      rw [hr] at h1
      simp only [Option.map_some] at h1
      cases hq2 : brows[q]? with
      | none => rw [hq2] at h1; simp at h1
      | some r2 =>
        rw [hq2] at h1
        simp at h1
        subst h1
        refine ⟨r, rfl, rfl, ?_⟩
        rw [List.all_eq_true] at hb2
        exact toArg_live _ (hb2 _ (List.mem_of_getElem? hq2))
  have hblen : brows.length = bs.length := by
    have := congrArg List.length hb1
    simpa using this.symm
  have hblive : ∀ (q id : Nat), bs[q]? = some id → liveAt s.rows id := fun q id hq => let ⟨r, h1, _, h3⟩ := hbrow q id hq; ⟨r, h1, h3⟩
  have hplace : ∀ (q id : Nat), bs[q]? = some id → placeOf bs id = some q := by
    intro q id hq
    have h1 : (bs.map (placeOf bs))[q]? = ((List.range bs.length).map some)[q]? := by rw [hb3]
    have hlt : q < bs.length := (List.getElem?_eq_some_iff.1 hq).1
    simp only [List.getElem?_map, hq, Option.map_some, List.getElem?_range hlt, Option.some.injEq] at h1
    exact h1
  let kept : Prop := sa.any (SV.isKept bs) = true
  let bm : Nat → MV := fun q => m ((bs[q]?).getD 0)
  let tk : Nat → Prop := fun b => ∃ (q id : Nat), bs[q]? = some id ∧ (m id).S b
  let C' : Ctx := ⟨w, fun b => Gd C s.rows m w false b ∨ (kept ∧ b < w.heap.size ∧ ¬ tk b), bs.length, bm⟩
  have hlen : args.length = va.size := by rw [mapM_len hargs, hva]
  have htk : ∀ b, tk b → priv s.rows m b := fun b ⟨q, id, h1, h2⟩ => ⟨id, hblive q id h1, h2⟩
  have hbpriv : ∀ b, priv brows bm b → tk b := by
    rintro b ⟨q, ⟨r, hr, hl⟩, hbk⟩
    have hq : q < bs.length := by rw [← hblen]; exact (List.getElem?_eq_some_iff.1 hr).1
    have hq2 : bs[q]? = some bs[q] := List.getElem?_eq_getElem hq
    exact ⟨q, _, hq2, by simpa [bm, hq2] using hbk⟩
  have hkey : ∀ fr b, Gd C s.rows m w fr b → Gd C' brows bm w false b := fun fr b hb =>
    ⟨hb.1, fun hp => hb.2.1 (htk b (hbpriv b hp)), fun _ => .inl (.inl hb.weak), fun e => by cases e⟩
  have hs0 : SimM C' ⟨va.size, enumE 0 args, brows⟩ bm ⟨va, []⟩ C'.w0 := {
    defs := rfl
    size := rfl
    os := rfl
    tape := rfl
    output := rfl
    hsz := Nat.le_refl _
    old := fun _ _ _ => rfl
    bor := fun _ _ => rfl
    nbl := by show bs.length ≤ brows.length; omega
    newb := fun id b hge hl _ => by
      obtain ⟨r, hr, _⟩ := hl
      have h1 : id < brows.length := (List.getElem?_eq_some_iff.1 hr).1
      change bs.length ≤ id at hge
      omega
    dist := fun i j b hi hj hbi hbj => by
      obtain ⟨r, hr, _⟩ := hi
      obtain ⟨r2, hr2, _⟩ := hj
      have hi1 : i < bs.length := by rw [← hblen]; exact (List.getElem?_eq_some_iff.1 hr).1
      have hj1 : j < bs.length := by rw [← hblen]; exact (List.getElem?_eq_some_iff.1 hr2).1
      have hi2 : bs[i]? = some bs[i] := List.getElem?_eq_getElem hi1
      have hj2 : bs[j]? = some bs[j] := List.getElem?_eq_getElem hj1
      simp only [bm, hi2, hj2, Option.getD_some] at hbi hbj
      have := hs.dist _ _ b (hblive i _ hi2) (hblive j _ hj2) hbi hbj
      have p1 := hplace i _ hi2
      have p2 := hplace j _ hj2
      rw [this, p2] at p1
      cases p1
      rfl
    rows := fun q r hr => by
      have hq : q < bs.length := by rw [← hblen]; exact (List.getElem?_eq_some_iff.1 hr).1
      have hq2 : bs[q]? = some bs[q] := List.getElem?_eq_getElem hq
      obtain ⟨r0, h1, h2, h3⟩ := hbrow q _ hq2
      change brows[q]? = some r at hr
      rw [hr] at h2
      cases h2
      have : bm q = m bs[q] := by simp [bm, hq2]
      rw [this]
      exact toArg_ok hkey (hs.rows _ _ h1)
    env := fun u => by
      show RS w _ _ _ (look (enumE 0 args) u) _
      rw [look_enumE]
      simp only [Nat.zero_le, if_true, Nat.sub_zero]
      rcases Nat.lt_or_ge u va.size with hu | hu
      · have hx : sa[u]? = some (sa[u]'(by omega)) := List.getElem?_eq_getElem (by omega)
        obtain ⟨y, hy, hg⟩ := mapM_get hargs u _ hx
        rw [hy]
        simp only [Option.getD_some]
        show RS w _ _ _ y (va.getD u undef)
        have hv := hvs u _ hx
        generalize hgx : sa[u]'(by omega) = gx at *
        generalize va.getD u undef = v at *
        cases hv with
        | pv fr p v hp =>
          simp only [argOfB, Option.some.injEq] at hg
          subst hg
          cases hsc : p.scal with
          | true => exact .pv _ _ _ (hp.scal_any hsc)
          | false => exact .pv _ _ _ (hp.mono fun b hb => ⟨hkey fr b hb, rfl⟩)
        | ref id hid =>
          simp only [argOfB] at hg
          split at hg
          · rename_i q hq
            simp at hg
            subst hg
            have hq2 := placeOf_some hq
            have : m id = bm q := by simp [bm, hq2]
            rw [this]
            exact .ref q (by show q < brows.length; rw [hblen]; exact (List.getElem?_eq_some_iff.1 hq2).1)
          · rename_i hq
            split at hg
            · rename_i t' e nl fr ys hrow
              simp at hg
              subst hg
              refine .pv _ _ _ (RP.of_row (hs.rows id _ hrow) (fun b hb => hkey _ b hb) (fun b hb => ?_))
              have hlt := hs.lt ⟨_, hrow, rfl⟩ hb
              have hk : kept := by
                show sa.any (SV.isKept bs) = true
                rw [List.any_eq_true]
                exact ⟨.ref id, List.mem_of_getElem? hx, by simp [SV.isKept, hq]⟩
              have hnt : ¬ tk b := by
                rintro ⟨q, id', h1, h2⟩
                have := hs.dist id id' b ⟨_, hrow, rfl⟩ (hblive q id' h1) hb h2
                subst this
                exact placeOf_none hq (List.mem_of_getElem? h1)
              exact ⟨hlt, fun hp => hnt (hbpriv b hp), fun _ => .inl (.inr ⟨hk, hlt, hnt⟩), fun e => by cases e⟩
            · rename_i t' e nl ys hrow
              simp at hg
              subst hg
              refine .pv _ _ _ (RP.of_tree (hs.rows id _ hrow) (fun b hb => ?_))
              have hlt := hs.lt ⟨_, hrow, rfl⟩ hb
              have hk : kept := by
                show sa.any (SV.isKept bs) = true
                rw [List.any_eq_true]
                exact ⟨.ref id, List.mem_of_getElem? hx, by simp [SV.isKept, hq]⟩
              have hnt : ¬ tk b := by
                rintro ⟨q, id', h1, h2⟩
                have := hs.dist id id' b ⟨_, hrow, rfl⟩ (hblive q id' h1) hb h2
                subst this
                exact placeOf_none hq (List.mem_of_getElem? h1)
              exact ⟨hlt, fun hp => hnt (hbpriv b hp), fun _ => .inl (.inr ⟨hk, hlt, hnt⟩), fun e => by cases e⟩
            · simp at hg
        | ptr id e i o b hid hbk =>
          simp only [argOfB] at hg
          split at hg
          · rename_i q hq
            simp at hg
            subst hg
            have hq2 := placeOf_some hq
            have : m id = bm q := by simp [bm, hq2]
            exact .ptr q e i o b (by show q < brows.length; rw [hblen]; exact (List.getElem?_eq_some_iff.1 hq2).1) (by rw [← this]; exact hbk)
          · simp at hg
        | ag vs us hl9 h9 h1 =>
          simp only [argOfB] at hg
          split at hg
          · rename_i ps hps
            simp at hg
            subst hg
            obtain ⟨g1, g2⟩ := argCells_get hps
            have hkey2 : ∀ (j : Nat) (p : PV) (u : Value), ps[j]? = some p → us[j]? = some u → RP w (Gd C' brows bm w false) p u ∧ p.isAgg = false := by
              intro j p u hp hu
              obtain ⟨c, hc, hcp⟩ := g2 j p hp
              refine argCell_ok hs (h9 j c u hc hu) hcp (h1 j u hu) (fun fr b hb => hkey fr b hb) (fun id b e hq hlv hb => ?_)
              subst e
              have hlt := hs.lt hlv hb
              have hk : kept := by
                show sa.any (SV.isKept bs) = true
                rw [List.any_eq_true]
                refine ⟨.ag vs, List.mem_of_getElem? hx, ?_⟩
                show vs.any (SV.isKept1 bs) = true
                rw [List.any_eq_true]
                exact ⟨.ref id, List.mem_of_getElem? hc, by simp [SV.isKept1, hq]⟩
              have hnt : ¬ tk b := by
                rintro ⟨q, id', h1, h2⟩
                have := hs.dist id id' b hlv (hblive q id' h1) hb h2
                subst this
                exact placeOf_none hq (List.mem_of_getElem? h1)
              exact ⟨hlt, fun hp => hnt (hbpriv b hp), fun _ => .inl (.inr ⟨hk, hlt, hnt⟩), fun e => by cases e⟩
            have hul : us.size = ps.length := by rw [hl9, g1]
            refine .pv _ _ _ (.agg ps us hul (fun j c hc => ?_) (fun j c u hc hu => (hkey2 j c u hc hu).1))
            have hj : j < us.size := by rw [hul]; exact (List.getElem?_eq_some_iff.1 hc).1
            exact (hkey2 j c _ hc (Array.getElem?_eq_getElem hj)).2
          · cases hg
        | _ => simp [argOfB] at hg
      · rw [List.getElem?_eq_none (by omega)]
        exact .any _ }
  refine (hsat C' bm va hblen.symm (fun b hb => hb.elim (fun h => h.1) (fun h => h.2.1)) (by simp [hlen]) hs0).mono ?_
  rintro e w' ⟨us, res, rows', m2, rfl, hus, hs', hR⟩
  obtain ⟨hbl, ⟨hnt, hbdd, hlv, hng⟩, hfr, hnx⟩ := next res rows' hR
  have hsz : w.heap.size ≤ w'.heap.size := hs'.hsz
  have hold : ∀ k, k < w.heap.size → ¬ tk k → w'.heap[k]? = w.heap[k]? := fun k hk hn => hs'.old k hk (fun q hq hbk => by
    have hq2 : bs[q]? = some bs[q] := List.getElem?_eq_getElem hq
    exact hn ⟨q, _, hq2, by simpa [C', bm, hq2] using hbk⟩)
  let N := s.rows.length
  let m3 : Nat → MV := fun j => if j < N then m j else m2 (j - N + bs.length)
  let nr := rowsAfter bs s.rows rows'
  have hm3 : ∀ j, j < N → m3 j = m j := fun j hj => by simp [m3, hj]
  have hm2b : ∀ (q id : Nat), bs[q]? = some id → m2 q = m id := by
    intro q id hq
    have := hs'.bor q (List.getElem?_eq_some_iff.1 hq).1
    rw [this]
    show bm q = m id
    simp [bm, hq]
  have hnrlen : nr.length = N + (rows'.length - bs.length) := by simp [nr, rowsAfter, N]
  have hnr1 : ∀ j, j < N → ∃ r0, s.rows[j]? = some r0 ∧ ((∃ q : Nat, bs[q]? = some j ∧ ∃ r', rows'[q]? = some r' ∧ nr[j]? = some r') ∨ (j ∉ bs ∧ nr[j]? = some r0)) := by
    intro j hj
    have h0 : s.rows[j]? = some s.rows[j] := List.getElem?_eq_getElem hj
    refine ⟨_, h0, ?_⟩
    have h1 : nr[j]? = some (match placeOf bs j with | some q => (rows'[q]?).getD .dead | none => s.rows[j]) := by
      simp only [nr, rowsAfter]
      rw [List.getElem?_append_left (by simp; exact hj)]
      simp [List.getElem?_mapIdx, h0]
      try (cases placeOf bs j <;> rfl)
    cases hp : placeOf bs j with
    | none => right; rw [hp] at h1; exact ⟨placeOf_none hp, h1⟩
    | some q =>
      left
      rw [hp] at h1
      have hq := placeOf_some hp
      have hq1 : q < rows'.length := Nat.lt_of_lt_of_le (List.getElem?_eq_some_iff.1 hq).1 hbl
      have hq2 : rows'[q]? = some rows'[q] := List.getElem?_eq_getElem hq1
      refine ⟨q, hq, _, hq2, ?_⟩
      rw [h1]
      show some ((rows'[q]?).getD Row.dead) = _
      rw [hq2]
      rfl
  have hnr2 : ∀ j, N ≤ j → nr[j]? = rows'[j - N + bs.length]? := by
    intro j hj
    simp only [nr, rowsAfter]
    rw [List.getElem?_append_right (by simp; exact hj)]
    simp only [List.length_mapIdx, List.getElem?_drop]
    congr 1
    omega
  have hnlive : ∀ j, j < N → liveAt nr j → liveAt s.rows j := by
    intro j hj ⟨r, hr, hl⟩
    obtain ⟨r0, h0, h | h⟩ := hnr1 j hj
    · obtain ⟨q, hq, _⟩ := h
      exact hblive q j hq
    · rw [h.2] at hr
      cases hr
      exact ⟨r, h0, hl⟩
  have hnew : ∀ j b, N ≤ j → liveAt nr j → (m3 j).S b → liveAt rows' (j - N + bs.length) ∧ (m2 (j - N + bs.length)).S b ∧ w.heap.size ≤ b := by
    intro j b hj ⟨r, hr, hl⟩ hbk
    rw [hnr2 j hj] at hr
    have e1 : m3 j = m2 (j - N + bs.length) := by simp [m3, Nat.not_lt.2 hj]
    rw [e1] at hbk
    exact ⟨⟨r, hr, hl⟩, hbk, hs'.newb _ b (by show bs.length ≤ _; omega) ⟨r, hr, hl⟩ hbk⟩
  have hG : ∀ f b, Gd C s.rows m w f b → Gd C nr m3 w' f b ∧ w'.heap[b]? = w.heap[b]? := by
    refine Gd.step tk hsz hold htk (fun b hlt ⟨j, hl, hbk⟩ => ?_)
    rcases Nat.lt_or_ge j N with hj | hj
    · rw [hm3 j hj] at hbk
      exact ⟨j, hnlive j hj hl, hbk⟩
    · have := (hnew j b hj hl hbk).2.2
      omega
  have hG2 : ∀ fl b, (fl = true ∨ ¬ kept) → Gd C' rows' m2 w' fl b → Gd C nr m3 w' fl b := by
    intro fl b hk hb
    have hnp : ¬ priv nr m3 b := by
      rintro ⟨j, hl, hbk⟩
      rcases Nat.lt_or_ge j N with hj | hj
      · obtain ⟨r0, h0, h | h⟩ := hnr1 j hj
        · obtain ⟨q, hq, r', hr', hn⟩ := h
          rw [hm3 j hj, ← hm2b q j hq] at hbk
          refine hb.2.1 ⟨q, ⟨r', hr', ?_⟩, hbk⟩
          rw [List.all_eq_true] at hlv
          refine hlv r' (List.mem_of_getElem? (i := q) ?_)
          rw [List.getElem?_take, if_pos (List.getElem?_eq_some_iff.1 hq).1]
          exact hr'
        · rw [hm3 j hj] at hbk
          have hpl : priv s.rows m b := ⟨j, hnlive j hj hl, hbk⟩
          have hlt := hs.lt (hnlive j hj hl) hbk
          cases fl with
          | true => have := (hb.2.2.2 rfl).1; change w.heap.size ≤ b at this; omega
          | false =>
            rcases hb.2.2.1 rfl with hA | hA
            · rcases hA with hA | hA
              · exact hA.2.1 hpl
              · rcases hk with hk | hk
                · cases hk
                · exact hk hA.1
            · change w.heap.size ≤ b at hA; omega
      · obtain ⟨h1, h2, _⟩ := hnew j b hj hl hbk
        exact hb.2.1 ⟨_, h1, h2⟩
    refine ⟨hb.1, hnp, fun e => ?_, fun e => ?_⟩
    · rcases hb.2.2.1 e with hA | hA
      · rcases hA with hA | hA
        · exact hA.2.2.1 rfl
        · rcases hk with hk | hk
          · rw [hk] at e; cases e
          · exact (hk hA.1).elim
      · exact .inr (Nat.le_trans hs.hsz hA)
    · have h4 := hb.2.2.2 e
      exact ⟨Nat.le_trans hs.hsz h4.1, h4.2⟩
  have hrowC : ∀ (q : Nat) (r : Row), rows'[q]? = some r → RowOK w' (Gd C nr m3 w') m3 nr.length (m2 q) r := by
    intro q r hr
    have h0 := hs'.rows q r hr
    have hfq : kept → r.fresh = true := by
      intro hk
      rcases hfr with h | h
      · have hk' : sa.any (SV.isKept bs) = true := hk
        rw [h] at hk'; cases hk'
      · have := h.2
        rw [List.all_eq_true] at this
        exact this r (List.mem_of_getElem? hr)
    have hbq : r.bdd 0 = true := by rw [List.all_eq_true] at hbdd; exact hbdd r (List.mem_of_getElem? hr)
    have hgq : r.noGh = true := by rw [List.all_eq_true] at hng; exact hng r (List.mem_of_getElem? hr)
    have hor : ∀ fl : Bool, (kept → fl = true) → (fl = true ∨ ¬ kept) := fun fl h => by
      by_cases hk : kept
      · exact .inl (h hk)
      · exact .inr hk
    change RowOK w' (Gd C' rows' m2 w') m2 rows'.length (m2 q) r at h0
    generalize m2 q = v at *
    cases h0 with
    | dead v => exact .dead v
    | own v t e nl fr xs vs hown h1 h2 hw hr' =>
      refine .own v t e nl fr xs vs hown h1 h2 hw (fun i x j c hx hc => ?_)
      obtain ⟨u, hu, hp⟩ := hr' i x j c hx hc
      exact ⟨u, hu, hp.mono fun b hb => ⟨hG2 fr b (hor fr hfq) hb, rfl⟩⟩
    | tree mv t e nl h xs vals Sf hown h1 h2 hw hr9 hd hn hz hS hkn => exact .tree _ t e nl h xs vals Sf hown h1 h2 hw hr9 hd hn hz hS hkn
    | mp b g es clock hbk hm' => exact .mp b g es clock hbk hm'
    | gh mv us cs hl h9 => cases hgq
    | var b t cs cur hb hl hr' h1 =>
      refine .var b t cs cur hb hl (fun j c u hc hu => ?_) h1
      have hv := hr' j c u hc hu
      have hcb : c.bdd 0 = true := by
        simp only [Row.bdd, List.all_eq_true] at hbq
        exact hbq c (List.mem_of_getElem? hc)
      have hcf : kept → c.fresh = true := by
        intro hk
        have := hfq hk
        simp only [Row.fresh, List.all_eq_true] at this
        exact this c (List.mem_of_getElem? hc)
      cases hv with
      | any v => exact .any _
      | val u => exact .val _
      | und => exact .und
      | pv fr p v hp =>
        cases hsc : p.scal with
        | true => exact .pv _ _ _ (hp.scal_any hsc)
        | false => exact .pv _ _ _ (hp.mono fun b hb => ⟨hG2 fr b (hor fr fun hk => by have := hcf hk; simpa [SV.fresh, hsc] using this) hb, rfl⟩)
      | ref i hi => simp [SV.bdd] at hcb
      | ptr i e' k o b' hi hbk => simp [SV.bdd] at hcb
      | adr fr cs' a' f' hsp hg h1' hc' hr2 =>
        by_cases hk : kept
        · have := hcf hk; simp [SV.fresh] at this
        · exact .adr fr cs' a' f' hsp (fun hne => hG2 fr _ (.inr hk) (hg hne)) h1' hc' (fun j c hj => (hr2 j c hj).mono fun b hb => ⟨hG2 fr b (.inr hk) hb, rfl⟩)
      | tup vs us' hl' h' => simp [SV.bdd] at hcb
      | sub i e' l h c' _ hid hs9 => simp [SV.bdd] at hcb
      | clo f ids us9 hl9 h9 => 
          have e9 : ids = [] := by
            cases ids with
            | nil => rfl
            | cons i ids => simp [SV.bdd] at hcb
          subst e9
          exact .clo f [] us9 hl9 (fun j i u h1 h2 => by simp at h1)
      | ag vs us' hl' h' h1' =>
        refine .ag vs us' hl' (fun q c u hc hu => ?_) h1'
        have hcb1 : c.bdd1 0 = true := by simp only [SV.bdd, List.all_eq_true] at hcb; exact hcb c (List.mem_of_getElem? hc)
        have hcf1 : kept → c.fresh1 = true := fun hk => by have := hcf hk; simp only [SV.fresh, List.all_eq_true] at this; exact this c (List.mem_of_getElem? hc)
        have hv := h' q c u hc hu
        cases hv with
        | any v => exact .any _
        | val u => exact .val _
        | und => exact .und
        | pv fr p v hp =>
          cases hsc : p.scal with
          | true => exact .pv _ _ _ (hp.scal_any hsc)
          | false => exact .pv _ _ _ (hp.mono fun b hb => ⟨hG2 fr b (hor fr fun hk => by have := hcf1 hk; simpa [SV.fresh1, hsc] using this) hb, rfl⟩)
        | ref i hi => simp [SV.bdd1] at hcb1
        | ptr i e' k o b' hi hbk => simp [SV.bdd1] at hcb1
        | adr fr cs' a' f' hsp hg h1' hc' hr2 =>
          by_cases hk : kept
          · have := hcf1 hk; simp [SV.fresh1] at this
          · exact .adr fr cs' a' f' hsp (fun hne => hG2 fr _ (.inr hk) (hg hne)) h1' hc' (fun j c hj => (hr2 j c hj).mono fun b hb => ⟨hG2 fr b (.inr hk) hb, rfl⟩)
        | tup vs us' hl' h' => simp [SV.bdd1] at hcb1
        | ag vs us' hl' h' h1' => simp [SV.bdd1] at hcb1
        | sub i e' l h c' _ hid hs9 => simp [SV.bdd1] at hcb1
        | clo f ids us9 hl9 h9 => 
          have e9 : ids = [] := by
            cases ids with
            | nil => rfl
            | cons i ids => simp [SV.bdd1] at hcb1
          subst e9
          exact .clo f [] us9 hl9 (fun j i u h1 h2 => by simp at h1)
  have hs2 : SimM C ⟨s.n, s.env, nr⟩ m3 a w' := {
    defs := hs.defs
    size := hs.size
    os := hs'.os.trans hs.os
    tape := hs'.tape.trans hs.tape
    output := hs'.output.trans hs.output
    hsz := Nat.le_trans hs.hsz hsz
    old := fun k hk hn => by
      refine (hold k (by have := hs.hsz; omega) ?_).trans (hs.old k hk hn)
      rintro ⟨q, id, h1, h2⟩
      by_cases hid : id < C.nb
      · exact hn id hid (by rw [← hs.bor id hid]; exact h2)
      · have := hs.newb id k (by omega) (hblive q id h1) h2; omega
    bor := fun id hid => by rw [hm3 id (by have := hs.nbl; show id < N; omega)]; exact hs.bor id hid
    nbl := by have := hs.nbl; show C.nb ≤ nr.length; rw [hnrlen]; show C.nb ≤ s.rows.length + _; omega
    newb := fun j b hj hl hbk => by
      rcases Nat.lt_or_ge j N with h | h
      · rw [hm3 j h] at hbk; exact hs.newb j b hj (hnlive j h hl) hbk
      · have := (hnew j b h hl hbk).2.2; have := hs.hsz; omega
    dist := fun i j b hi hj hbi hbj => by
      rcases Nat.lt_or_ge i N with h1 | h1 <;> rcases Nat.lt_or_ge j N with h2 | h2
      · rw [hm3 i h1] at hbi; rw [hm3 j h2] at hbj
        exact hs.dist i j b (hnlive i h1 hi) (hnlive j h2 hj) hbi hbj
      · rw [hm3 i h1] at hbi
        have e1 := hs.lt (hnlive i h1 hi) hbi
        have e2 := (hnew j b h2 hj hbj).2.2
        omega
      · rw [hm3 j h2] at hbj
        have e1 := hs.lt (hnlive j h2 hj) hbj
        have e2 := (hnew i b h1 hi hbi).2.2
        omega
      · obtain ⟨l1, b1, _⟩ := hnew i b h1 hi hbi
        obtain ⟨l2, b2, _⟩ := hnew j b h2 hj hbj
        have := hs'.dist _ _ b l1 l2 b1 b2
        omega
    rows := fun j r hr => by
      change nr[j]? = some r at hr
      show RowOK w' (Gd C nr m3 w') m3 nr.length (m3 j) r
      rcases Nat.lt_or_ge j N with h | h
      · rw [hm3 j h]
        obtain ⟨r0, h0, hh | hh⟩ := hnr1 j h
        · obtain ⟨q, hq, r', hr', hn⟩ := hh
          rw [hn] at hr
          cases hr
          rw [← hm2b q j hq]
          exact hrowC q r hr'
        · rw [hh.2] at hr
          cases hr
          refine RowOK.mono hG (by rw [hnrlen]; exact Nat.le_add_right _ _) (fun id hid => hm3 id hid) (hs.rows j r h0) (fun hl b hb => hold b (hs.lt ⟨r, h0, hl⟩ hb) ?_)
          rintro ⟨q, id, h1, h2⟩
          have := hs.dist j id b ⟨r, h0, hl⟩ (hblive q id h1) hb h2
          subst this
          exact hh.1 (List.mem_of_getElem? h1)
      · rw [hnr2 j h] at hr
        have e1 : m3 j = m2 (j - N + bs.length) := by simp [m3, Nat.not_lt.2 h]
        rw [e1]
        exact hrowC _ r hr
    env := fun u => by
      refine (hs.env u).mono hG ?_ (fun id hid => hm3 id hid)
      show s.rows.length ≤ nr.length
      rw [hnrlen]
      exact Nat.le_add_right _ _ }
  have hres : ∀ (j : Nat) (r : SV), res[j]? = some r → RS w' (Gd C nr m3 w') m3 nr.length (r.shift bs N) (us.getD j undef) := by
    intro j r hj
    have hv := hs'.env j
    change RS w' _ _ _ (look (enumE 0 res) j) (us.getD j undef) at hv
    rw [look_enumE] at hv
    simp only [Nat.zero_le, if_true, Nat.sub_zero, hj, Option.getD_some] at hv
    have hrf : kept → r.fresh = true := by
      intro hk
      rcases hfr with h | h
      · have hk' : sa.any (SV.isKept bs) = true := hk
        rw [h] at hk'; cases hk'
      · have := h.1
        rw [List.all_eq_true] at this
        exact this r (List.mem_of_getElem? hj)
    have hrt : r.noTup = true := by rw [List.all_eq_true] at hnt; exact hnt r (List.mem_of_getElem? hj)
    have hidx : ∀ i, i < rows'.length → ∃ i', i' < nr.length ∧ m3 i' = m2 i ∧ (match bs[i]? with | some b => b | none => i - bs.length + N) = i' := by
      intro i hi
      cases hbi : bs[i]? with
      | some b =>
        have hbN : b < N := by
          obtain ⟨r, hr, _⟩ := hblive i b hbi
          exact (List.getElem?_eq_some_iff.1 hr).1
        exact ⟨b, by rw [hnrlen]; omega, by rw [hm3 b hbN]; exact (hm2b i b hbi).symm, rfl⟩
      | none =>
        have hge : bs.length ≤ i := by simpa using hbi
        refine ⟨i - bs.length + N, by rw [hnrlen]; omega, ?_, rfl⟩
        simp only [m3]
        rw [if_neg (by omega)]
        congr 1
        omega
    generalize us.getD j undef = v at *
    cases hv with
    | any v => exact .any _
    | val u => exact .any _
    | und => exact .any _
    | pv fr p v hp =>
      simp only [SV.shift]
      cases hsc : p.scal with
      | true => exact .pv _ _ _ (hp.scal_any hsc)
      | false =>
        refine .pv _ _ _ (hp.mono fun b hb => ⟨hG2 fr b ?_ hb, rfl⟩)
        by_cases hk : kept
        · left; have := hrf hk; simpa [SV.fresh, hsc] using this
        · exact .inr hk
    | ref i hi =>
      obtain ⟨i', h1, h2, h3⟩ := hidx i hi
      have e : SV.shift bs N (.ref i) = .ref i' := by
        simp only [SV.shift]
        cases hbi : bs[i]? <;> rw [hbi] at h3 <;> simp_all
      rw [e, ← h2]
      exact .ref i' h1
    | ptr i e k o b hi hbk =>
      obtain ⟨i', h1, h2, h3⟩ := hidx i hi
      have e : SV.shift bs N (.ptr i e k o) = .ptr i' e k o := by
        simp only [SV.shift]
        cases hbi : bs[i]? <;> rw [hbi] at h3 <;> simp_all
      rw [e]
      exact .ptr i' _ _ _ b h1 (by rw [h2]; exact hbk)
    | adr fr cs' a' f' hsp hg h1' hc' hr2 => exact .any _
    | tup vs us' hl' h' => simp [SV.noTup] at hrt
    | sub i e' l h c' _ hid hs9 => exact .any _
    | clo => exact .any _
    | ag vs us' hl' h' h1' =>
      refine .ag _ us' (by simpa using hl') (fun q c u hc hu => ?_) h1'
      simp only [List.getElem?_map, Option.map_eq_some_iff] at hc
      obtain ⟨c', hc', rfl⟩ := hc
      have hcf1 : kept → c'.fresh1 = true := fun hk => by have := hrf hk; simp only [SV.fresh, List.all_eq_true] at this; exact this c' (List.mem_of_getElem? hc')
      have hv := h' q c' u hc' hu
      cases hv with
      | pv fr p v hp =>
        simp only [SV.shift1]
        cases hsc : p.scal with
        | true => exact .pv _ _ _ (hp.scal_any hsc)
        | false =>
          refine .pv _ _ _ (hp.mono fun b hb => ⟨hG2 fr b ?_ hb, rfl⟩)
          by_cases hk : kept
          · left; have := hcf1 hk; simpa [SV.fresh1, hsc] using this
          · exact .inr hk
      | ref i hi =>
        obtain ⟨i', h1, h2, h3⟩ := hidx i hi
        have e : SV.shift1 bs N (.ref i) = .ref i' := by
          simp only [SV.shift1]
          cases hbi : bs[i]? <;> rw [hbi] at h3 <;> simp_all
        rw [e, ← h2]
        exact .ref i' h1
      | _ => exact .any _
  have hput := hs2.put (blt_lt ht) (sv := packS (res.map (SV.shift bs N))) (v := pack us) (by
    match res, hus, hres with
    | [], hus, _ =>
      have : us = #[] := Array.eq_empty_of_size_eq_zero (by simpa using hus)
      subst this
      exact .tup _ _ rfl (fun j c v hc => by simp at hc)
    | [r], hus, hres =>
      have h1 : us.size = 1 := by simpa using hus
      have := hres 0 r rfl
      simp only [packS, pack, h1, dif_pos, List.map_cons, List.map_nil]
      simpa [Array.getD, h1] using this
    | r1 :: r2 :: rs, hus, hres =>
      have h1 : us.size ≠ 1 := by rw [hus]; simp
      simp only [packS, pack, h1, dif_neg, not_false_iff, List.map_cons]
      refine .tup _ _ (by rw [hus]; simp) (fun j c v hc hv => ?_)
      have hc2 : ((r1 :: r2 :: rs).map (SV.shift bs N))[j]? = some c := by simpa using hc
      simp only [List.getElem?_map, Option.map_eq_some_iff] at hc2
      obtain ⟨c', hc', rfl⟩ := hc2
      have := hres j c' hc'
      have e : us.getD j undef = v := by
        rw [Array.getElem?_eq_some_iff] at hv
        obtain ⟨hlt, e⟩ := hv
        simp [Array.getD, hlt, e]
      rw [e] at this
      exact this)
  exact hnx _ _ _ hput hsz (fun k hk hn => hold k hk (fun ⟨q, id, h1, h2⟩ => hn q id h1 h2))

end
end Go.Vl

namespace Go.Vl
open Go.RowKit
section
variable {P : Program} {C : Ctx} {Q : Go.Exit → St → Prop} {s : St} {ops : Array Oper} {rest : List Oper} {t : Nat} {ty : TypeId} {pos : String} {af : Array Edge}

/-- Which function a method is, for a dynamic type; and what it is given. -/
def MethAt (P : Program) (T : TypeId) (name : String) (p : PV) (F : FuncId) (q : PV) : Prop :=
  ∀ (w : World) (G : Nat → Prop) (v : Value), RP w G p v → ∃ r, (Go.method (P.types.size + Made.depth) T v name).run P w = .ok (F, r) w ∧ RP w G q r

end
end Go.Vl

/- Function values that hold pointers to variables: made, and called. -/
namespace Go.Vl
set_option linter.unusedVariables false
set_option linter.unusedSimpArgs false
open Go.RowKit
section
variable {P : Program} {C : Ctx} {Q : Go.Exit → St → Prop} {s : St} {ops : Array Oper} {rest : List Oper} {t : Nat} {ty : TypeId} {pos : String} {af : Array Edge}

/-- A function literal: its value holds pointers to the variables that it captures. -/
theorem vo_makeFunc {f : FuncId} {xs : Array Operand} {ids : List Nat} (ht : Nat.blt t s.n = true)
    (hx : xs.toList.map (getO s.env) = ids.map fun i => SV.ptr i 0 0 0)
    (next : VO P C ops rest Q (s.put t (.clo f ids))) : VO P C ops (⟨some t, .makeFunc (.func f) #[] xs, ty, pos, af, none⟩ :: rest) Q s := by
  have hlen : xs.size = ids.length := by have := congrArg List.length hx; simpa using this
  refine vo_value (s1 := s) (sv := .clo f ids) ht (fun m a w hs => ⟨.func (.func f) #[] (xs.map a.eval), w, m, by simp [execOp, Instr.makeFunc], hs, .clo f ids _ (by simp [hlen]) (fun j i u h1 h2 => ?_)⟩) next
  simp only [Array.getElem?_map, Option.map_eq_some_iff] at h2
  obtain ⟨o, ho, rfl⟩ := h2
  have h3 : (xs.toList.map (getO s.env))[j]? = some (getO s.env o) := by simp [ho]
  rw [hx] at h3
  simp only [List.getElem?_map, h1, Option.map_some, Option.some.injEq] at h3
  have hv := hs.get o
  rw [← h3] at hv
  generalize a.eval o = v at hv
  cases hv with
  | ptr _ _ _ _ b hid hb => exact ⟨hid, b, hb, by simp⟩

theorem run_callF {F : FuncId} {fn : Func} {a : Act} {w : World} {g : Operand} {us : Array Value} {xs : Array Operand} {Ts : Array TypeId} {gd : Option (Nat × Bool)} (hf : P.funcs[F]? = some fn) (hnm : (fn.name == "runtime.NumGoroutine") = false)
    (hbd : fn.body.isNone = false) (hv : a.eval g = .func (.func F) #[] us) (dst : Option Tmp) :
    (execOp a.eval ⟨dst, .call ⟨.value g, xs, Ts⟩, ty, pos, af, gd⟩).run P w = .ok (.enter F (xs.map a.eval ++ us)) w := by
  have h1 : ¬ (fn.name = "runtime.NumGoroutine") := by simpa using hnm
  have h2 : ¬ (fn.body = none) := by intro e; rw [e] at hbd; cases hbd
  have hc : ∀ args, (callFunc F args).run P w = .ok (.enter F args) w := fun args => by simp [callFunc, hf, h1, h2]
  have hres : (resolve a.eval ⟨.value g, xs, Ts⟩ ty).run P w = .ok { target := .fn (.func F) us, args := xs.map a.eval } w := by
    unfold resolve
    simp [hv, Deferred.ofValue]
  simp only [execOp, Sem.run_bind, hres, Result.andThen_ok]
  exact hc _

/-- A call of a function value that holds pointers to variables: they come behind the arguments. -/
theorem vo_callF {g : Operand} {xs : Array Operand} {Ts : Array TypeId} {F : FuncId} {ids : List Nat} {fn : Func} {args : List SV} {R : List SV → List Row → Prop} (bs : List Nat) {brows : List Row}
    (hg : getO s.env g = .clo F ids) (hf : P.funcs[F]? = some fn) (hnm : (fn.name == "runtime.NumGoroutine") = false) (hbd : fn.body.isNone = false) (ht : Nat.blt t s.n = true)
    (hb1 : bs.map (fun id => (s.rows[id]?).map Row.toArg) = brows.map some) (hb2 : brows.all Row.live = true) (hb3 : bs.map (placeOf bs) = (List.range bs.length).map some)
    (hargs : (xs.toList.map (getO s.env) ++ ids.map fun i => SV.ptr i 0 0 0).mapM (argOfB bs s.rows) = some args) (hsat : SatAt P F args brows R)
    (next : ∀ res rows', R res rows' → bs.length ≤ rows'.length ∧ (res.all SV.noTup = true ∧ rows'.all (Row.bdd 0) = true ∧ (rows'.take bs.length).all Row.live = true ∧ rows'.all Row.noGh = true) ∧
      (((xs.toList.map (getO s.env) ++ ids.map fun i => SV.ptr i 0 0 0).any (SV.isKept bs) = false) ∨ (res.all SV.fresh = true ∧ rows'.all Row.fresh = true)) ∧
      VO P C ops rest Q ⟨s.n, (t, packS (res.map (SV.shift bs s.rows.length))) :: s.env, rowsAfter bs s.rows rows'⟩) :
    VO P C ops (⟨some t, .call ⟨.value g, xs, Ts⟩, ty, pos, af, none⟩ :: rest) Q s := by
  intro a w ⟨m, hs⟩
  refine wpList_plain rfl fun K hK => ?_
  have hv := hs.get g
  rw [hg] at hv
  obtain ⟨us, hva, hul, hus⟩ : ∃ us : Array Value, a.eval g = .func (.func F) #[] us ∧ us.size = ids.length ∧ ∀ (j i : Nat) (u : Value), ids[j]? = some i → us[j]? = some u → i < s.rows.length ∧ ∃ b, blk (m i).v = some b ∧ u = .pointer (some ⟨b, 0, none⟩) := by
    generalize a.eval g = x at hv
    cases hv with
    | clo _ _ us hl h => exact ⟨us, rfl, hl, h⟩
  refine ow_callA (sa := xs.toList.map (getO s.env) ++ ids.map fun i => SV.ptr i 0 0 0) bs hs (run_callF hf hnm hbd hva (some t)) (by simp [hul]) (fun u x hu => ?_) ht hb1 hb2 hb3 hargs hsat
    (fun res rows' hR => let ⟨h1, h2, h3, h4⟩ := next res rows' hR; ⟨h1, h2, h3, fun m' a' w' hs' _ _ => hK _ _ (h4 _ _ ⟨m', hs'⟩)⟩)
  rcases Nat.lt_or_ge u xs.size with hlt | hge
  · rw [List.getElem?_append_left (by simpa using hlt)] at hu
    simp only [List.getElem?_map, Option.map_eq_some_iff] at hu
    obtain ⟨o, ho, rfl⟩ := hu
    have ho' : xs[u]? = some o := by simpa using ho
    have e : (xs.map a.eval ++ us).getD u undef = a.eval o := by
      have e1 : (xs.map a.eval ++ us)[u]? = some (a.eval o) := by
        rw [Array.getElem?_append_left (by simpa using hlt)]
        simp [ho']
      rw [Array.getD_eq_getD_getElem?, e1]; rfl
    rw [e]
    exact hs.get o
  · rw [List.getElem?_append_right (by simpa using hge)] at hu
    simp only [List.length_map, Array.length_toList, List.getElem?_map, Option.map_eq_some_iff] at hu
    obtain ⟨i, hi, rfl⟩ := hu
    have hj : u - xs.size < us.size := by rw [hul]; exact (List.getElem?_eq_some_iff.1 hi).1
    obtain ⟨hid, b, hb, hbe⟩ := hus _ _ _ hi (Array.getElem?_eq_getElem hj)
    have e : (xs.map a.eval ++ us).getD u undef = us[u - xs.size] := by
      have e1 : (xs.map a.eval ++ us)[u]? = some us[u - xs.size] := by
        rw [Array.getElem?_append_right (by simpa using hge)]
        simp [Array.getElem?_eq_getElem hj]
      rw [Array.getD_eq_getD_getElem?, e1]; rfl
    rw [e, hbe]
    have := RS.ptr (w := w) (G := Gd C s.rows m w) (m := m) (N := s.rows.length) i 0 0 0 b hid hb
    simpa using this
end
end Go.Vl

/- Rows of numbers sorted and made compact by the library. -/
namespace Go.Vl
set_option linter.unusedVariables false
set_option linter.unusedSimpArgs false
open Go.RowKit Go.Sort Go.Proofs

structure SortC (P : Program) (f : FuncId) : Prop where
  some : ∀ (blk off cap : Nat) (zs : List Int) (w : World), Holds (Value.int .i64) w blk off zs.toArray → blk < w.heap.size → zs.length < 4611686018427387904 →
    Calls P f #[.slice (some ⟨blk, off, none⟩) zs.length cap] w fun e w' => e = .returned (.tuple #[]) ∧ ∃ n os, w' = grow (putRow (Value.int .i64) (Sort.ahead w n) blk off (zs.mergeSort fun x y => decide (x ≤ y)).toArray) os
  none : ∀ (a : Option Addr) (cap : Nat) (w : World), Calls P f #[.slice a 0 cap] w fun e w' => e = .returned (.tuple #[]) ∧ w' = w
structure CompactC (P : Program) (f : FuncId) : Prop where
  some : ∀ (blk off cap : Nat) (zs : List Int) (w : World), Holds (Value.int .i64) w blk off zs.toArray → zs.length ≤ 9223372036854775807 → zs.length ≤ cap →
    Calls P f #[.slice (some ⟨blk, off, none⟩) zs.length cap] w fun e w' => e = .returned (.slice (some ⟨blk, off, none⟩) (Lib.compact zs).length cap) ∧ ∃ q, w' = putRow (Value.int .i64) (Sort.ahead w q) blk off (Lib.compact zs ++ List.replicate (zs.length - (Lib.compact zs).length) 0).toArray
  none : ∀ (a : Option Addr) (cap : Nat) (w : World), Calls P f #[.slice a 0 cap] w fun e w' => e = .returned (.slice a 0 cap) ∧ w' = w

def srt (l : List Int) : List Int := l.mergeSort fun x y => decide (x ≤ y)

theorem own_vals {w : World} {G : Nat → Prop} {l : List Int} {vs : List Value} (hl : vs.length = l.length * 1) (hr : ∀ (i : Nat) (x : PV) (j : Nat) (c : PV), (l.map intP)[i]? = some x → x.cells[j]? = some c → ∃ u, vs[i * 1 + j]? = some u ∧ RP w G c u) : vs = l.map (Value.int .i64) := by
  apply List.ext_getElem?
  intro i
  by_cases hi : i < l.length
  · obtain ⟨u, hu, hp⟩ := hr i (intP l[i]) 0 (intP l[i]) (by simp [hi]) rfl
    simp only [Nat.mul_one, Nat.add_zero] at hu
    cases hp
    rw [hu]; simp [hi]
  · rw [List.getElem?_eq_none (by omega), List.getElem?_eq_none (by simp; omega)]

theorem ints_rows {w : World} {G : Nat → Prop} {l : List Int} : ∀ (i : Nat) (x : PV) (j : Nat) (c : PV), (l.map intP)[i]? = some x → x.cells[j]? = some c → ∃ u, (l.map (Value.int .i64))[i * 1 + j]? = some u ∧ RP w G c u := by
  intro i x j c hx hc
  simp only [List.getElem?_map, Option.map_eq_some_iff] at hx
  obtain ⟨z, hz, rfl⟩ := hx
  match j, hc with
  | 0, hc =>
    simp [PV.cells] at hc
    subst hc
    exact ⟨.int .i64 z, by simp [hz], .int _ _⟩
theorem ints_fits {l : List Int} : ∀ (i : Nat) (x : PV), (l.map intP)[i]? = some x → x.fits 1 := by
  intro i x hx
  simp only [List.getElem?_map, Option.map_eq_some_iff] at hx
  obtain ⟨z, _, rfl⟩ := hx
  exact fits_of rfl

theorem sort_sat {P : Program} {f : FuncId} (h : SortC P f) {t : TypeId} {nl : Option Bool} {fr : Bool} {l : List Int} (hlen : l.length < 1000000000) :
    SatAt P f [.ref 0] [Row.own t 1 nl fr (l.map intP)] (fun res rows => res = [] ∧ rows = [Row.own t 1 nl fr ((srt l).map intP)]) := by
  intro C m vals hnb hA hvl hs
  have hv := hs.env 0
  have hv0 : vals = #[(m 0).v] := by
    have hsz : vals.size = 1 := hvl
    change RS _ _ _ _ (.ref 0) (vals.getD 0 undef) at hv
    generalize hg : vals.getD 0 undef = u at hv
    cases hv
    apply Array.ext (by simp [hsz])
    intro i h1 h2
    have : i = 0 := by omega
    subst this
    simpa [Array.getD, hsz] using hg
  subst hv0
  have hR := hs.rows 0 _ rfl
  have hlive : liveAt [Row.own t 1 nl fr (l.map intP)] 0 := ⟨_, rfl, rfl⟩
  have hsl : (srt l).length = l.length := by simp [srt]
  have fin : ∀ (w' : World) (bo : Option Nat), (∀ b, bo = some b → (m 0).S b) → C.w0.grownBy w' bo → (∀ vs, C.w0.ownsRow 0 t 1 (m 0).v l.length vs → w'.ownsRow 0 t 1 (m 0).v l.length ((srt l).map (Value.int .i64))) →
      ∃ (us : Array Value) (res : List SV) (rows' : List Row) (m' : Nat → MV), Ending.returned (.tuple #[]) = .returned (pack us) ∧ us.size = res.length ∧ SimM C ⟨us.size, enumE 0 res, rows'⟩ m' ⟨us, []⟩ w' ∧ (res = [] ∧ rows' = [Row.own t 1 nl fr ((srt l).map intP)]) := by
    intro w' bo hbo hg hown
    refine ⟨#[], [], [Row.own t 1 nl fr ((srt l).map intP)], m, by simp [pack], rfl, ?_, rfl, rfl⟩
    have h2 := hs.storeRow (id := 0) hlive hbo hg (Row.own t 1 nl fr ((srt l).map intP)) (fun hG => by
      generalize hmv : m 0 = v at *
      cases hR with
      | own v t' e nl fr xs vs hown0 h1 h2 hw hr =>
        refine .own v t 1 nl fr _ ((srt l).map (Value.int .i64)) (by
          have h8 := hown vs (by have h9 := hown0; rw [List.length_map] at h9; exact h9)
          rw [List.length_map, hsl]; exact h8) h1 h2 ints_fits ints_rows)
    exact { h2 with size := rfl, env := fun u => RS.any _ }
  generalize hmv : m 0 = v at *
  have hR2 := hR
  cases hR with
  | own v t' e nl fr xs vs hown0 h1 h2 hw hr =>
    have hvs : vs = l.map (Value.int .i64) := own_vals (by simpa using hown0.1) hr
    subst hvs
    rcases hown0.2 with ⟨rfl, hn⟩ | ⟨g, cap, cur, rfl, h0, hh, hle, hmx, hsz, htk⟩
    · have : l = [] := by simpa using hn
      subst this
      refine (h.none none 0 C.w0).mono ?_
      rintro e w' ⟨rfl, rfl⟩
      exact fin C.w0 none (fun b hb => by cases hb) ⟨rfl, rfl, rfl, Nat.le_refl _, fun _ _ _ => rfl⟩ (fun vs hv => by
        have : vs = [] := List.eq_nil_of_length_eq_zero (by simpa using hv.1)
        subst this
        simpa [srt] using hv)
    · have hH := holds_of_blockI (ss := l) hh (by simpa using htk)
      have hlt : g < C.w0.heap.size := (Array.getElem?_eq_some_iff.1 hh).1
      have hlm : (l.map intP).length = l.length := List.length_map ..
      rw [hlm]
      refine (h.some g 0 cap l C.w0 hH hlt (by omega)).mono ?_
      rintro e w' ⟨rfl, n, os, rfl⟩
      refine fin _ (some g) (fun b hb => by cases hb; rfl) (grownBy_sortedI _) (fun vs hv => ?_)
      have := ownsRow_sortedI (w := C.w0) (base := 0) (g := g) (cap := cap) (n := n) (e := t) (os := os) (cur := cur) (ss := l) (ts := srt l) hsl (Nat.zero_le _) hh (by rw [← hlm]; exact hle) hmx (by simpa using hsz)
      rw [hlm]
      exact this

end Go.Vl
