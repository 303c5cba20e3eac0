/- Part 3 of the texts that the proof of FnExactNamesOf is built on. -/
import Derived.Test.YtlpchicpbnmdgabGreatVl2
import Derived.Deep.MidRow
import Derived.Laws.StructEq
import Derived.MapKept
import Derived.Test.YtlpchicpbnmdgabGreatProg
import Derived.KernelRfl
/- Structs as values: variables of their own, loads and stores of whole ones, their fields, and functions that hand them back. -/
namespace Go.Vl
set_option linter.unusedVariables false
set_option linter.unusedSimpArgs false
open Go.RowKit

/-- A struct's cells, its zero value. -/
structure StZ (P : Program) (S : TypeId) (zs : List PV) : Prop where
  und : ∃ fs, P.underlying S = some (.struct fs)
  inf : ∃ i zc, P.info? S = some i ∧ i.size = zs.length ∧ i.zero = some (.agg zc) ∧ ∀ w G, RP w G (.agg zs) (.agg zc)

/-- The values of a variable's cells. -/
def collectC : List SV → Option (Bool × List PV)
  | [] => some (true, [])
  | .pv f p :: r => match collectC r with
    | some (f', ps) => some ((f || p.scal) && f', p :: ps)
    | none => none
  | _ :: _ => none

theorem collectC_get : ∀ {l : List SV} {f : Bool} {ps : List PV}, collectC l = some (f, ps) → l.length = ps.length ∧ ∀ (j : Nat) (p : PV), ps[j]? = some p → ∃ g, l[j]? = some (.pv g p) ∧ (f = true → (g || p.scal) = true)
  | [], f, ps, h => by simp [collectC] at h; obtain ⟨rfl, rfl⟩ := h; exact ⟨rfl, fun j p hp => by simp at hp⟩
  | .pv g p :: r, f, ps, h => by
    simp only [collectC] at h
    split at h
    · rename_i f' ps' hr
      simp at h
      obtain ⟨rfl, rfl⟩ := h
      obtain ⟨h1, h2⟩ := collectC_get hr
      refine ⟨by simp [h1], fun j q hq => ?_⟩
      cases j with
      | zero => simp at hq; subst hq; exact ⟨g, rfl, fun h => by simp at h; simp [h.1]⟩
      | succ j =>
        obtain ⟨g', h3, h4⟩ := h2 j q (by simpa using hq)
        exact ⟨g', by simpa using h3, fun h => by simp only [Bool.and_eq_true] at h; exact h4 h.2⟩
    · cases h
  | .ref _ :: _, _, _, h => by simp [collectC] at h
  | .ptr _ _ _ _ :: _, _, _, h => by simp [collectC] at h
  | .adr _ _ :: _, _, _, h => by simp [collectC] at h
  | .tup _ :: _, _, _, h => by simp [collectC] at h
  | .und :: _, _, _, h => by simp [collectC] at h
  | .any :: _, _, _, h => by simp [collectC] at h

theorem RP.notAgg {w : World} {G : Nat → Prop} {p : PV} {v : Value} (h : RP w G p v) (h1 : v.oneCell' = true) : p.isAgg = false := by
  cases h <;> first | rfl | simp [Value.oneCell'] at h1

theorem RP.flag {w : World} {G : Bool → Nat → Prop} (hw : ∀ b, G true b → G false b) {g f : Bool} {p : PV} {v : Value} (h : RP w (G g) p v) (hf : f = true → (g || p.scal) = true) : RP w (G f) p v := by
  cases hsc : p.scal with
  | true => exact h.scal_any hsc
  | false =>
    cases f with
    | true => have := hf rfl; rw [hsc] at this; simp at this; subst this; exact h
    | false =>
      cases g with
      | true => exact h.mono fun b hb => ⟨hw b hb, rfl⟩
      | false => exact h

section
variable {P : Program} {C : Ctx} {Q : Go.Exit → St → Prop} {s : St} {ops : Array Oper} {rest : List Oper} {t : Nat} {ty : TypeId} {pos : String} {af : Array Edge}

theorem vo_alloc {S : TypeId} {zs : List PV} (hZ : StZ P S zs) (ht : Nat.blt t s.n = true)
    (next : VO P C ops rest Q ⟨s.n, (t, .ptr s.rows.length 0 0 0) :: s.env, s.rows ++ [.var S (zs.map fun c => .pv true c)]⟩) :
    VO P C ops (⟨some t, .alloc S, ty, pos, af, none⟩ :: rest) Q s := by
  refine vo_value (s1 := { s with rows := s.rows ++ [.var S (zs.map fun c => .pv true c)] }) (sv := .ptr s.rows.length 0 0 0) ht (fun m a w hs => ?_) next
  obtain ⟨_, i, zc, hi, hsz, hz, hr⟩ := hZ
  have hrp := hr w (fun _ => False)
  have hlen : zc.size = zs.length := by cases hrp with | agg _ _ hl => exact hl
  have hadd := hs.addRow (w' := w.alloc (.cells zc S)) (World.grownBy_alloc w _ none) (.var S (zs.map fun c => .pv true c)) (.of <| .pointer (some ⟨w.heap.size, 0, none⟩))
    (fun b hb => by simp [MV.of, blk] at hb; omega) (fun hG => .var w.heap.size S _ zc (heap_alloc_new w _) (by simpa using hlen) (fun j c u hc hu => by
      simp only [List.getElem?_map, Option.map_eq_some_iff] at hc
      obtain ⟨c', hc', rfl⟩ := hc
      have := hr (w.alloc (.cells zc S)) (Gd C (s.rows ++ [.var S (zs.map fun c => .pv true c)]) (updM m s.rows.length (.of <| .pointer (some ⟨w.heap.size, 0, none⟩))) (w.alloc (.cells zc S)) true)
      cases this with
      | agg _ _ _ _ h => exact .pv _ _ _ (h j c' u hc' hu)) (fun j u hu => by
      cases hrp with
      | agg _ _ hl h1 h =>
        have hj : j < zs.length := by rw [← hl]; exact (Array.getElem?_eq_some_iff.1 hu).1
        have hc := List.getElem?_eq_getElem hj
        exact (h j _ u hc hu).oneCell (h1 j _ hc)))
  refine ⟨.pointer (some ⟨w.heap.size, 0, none⟩), _, _, ?_, hadd.1, ?_⟩
  · simp [execOp, Instr.alloc, zeroValue, typeInfo, hi, hz, newVar, newRow, Value.cells]
  · exact .ptr s.rows.length 0 0 0 w.heap.size (by simp) (by rw [updM_same]; rfl)

/-- The cells of a variable, as they lie. -/
theorem SimM.var {m : Nat → MV} {a : Act} {w : World} (h : SimM C s m a w) {x : Operand} {id e i o R : Nat} {cs : List SV} (hx : getO s.env x = .ptr id e i o) (hrow : s.rows[id]? = some (.var R cs)) :
    ∃ (b : Nat) (cur : Array Value), a.eval x = .pointer (some ⟨b, i * e + o, none⟩) ∧ (m id) = .of (.pointer (some ⟨b, 0, none⟩)) ∧ w.heap[b]? = some (.cells cur R (0, 0)) ∧ cur.size = cs.length ∧
      (∀ (j : Nat) (c : SV) (u : Value), cs[j]? = some c → cur[j]? = some u → RS w (Gd C s.rows m w) m s.rows.length c u) ∧ ∀ (j : Nat) (u : Value), cur[j]? = some u → u.oneCell' = true := by
  obtain ⟨b, hv, hb, hid⟩ := h.ptr hx
  have hR := h.rows id _ hrow
  generalize hmv : m id = v at *
  cases hR with
  | var b' t' cs cur hbk hl hr h1 =>
    simp only [MV.of, blk, Option.some.injEq] at hb
    subst hb
    exact ⟨b', cur, hv, rfl, hbk, hl, hr, h1⟩

theorem load_cells {m : Nat → MV} {a : Act} {w : World} (h : SimM C s m a w) {x : Operand} {T id e i o R n : Nat} {cs : List SV} {f : Bool} {ps : List PV} {D : TypeDesc} {inf : TypeInfo} (hx : getO s.env x = .ptr id e i o) (hrow : s.rows[id]? = some (.var R cs))
    (hT : P.underlying T = some D) (hD : D.isRow = true) (hinf : P.info? T = some inf) (hsz : inf.size = n) (hle : i * e + o + n ≤ cs.length) (hps : collectC ((cs.drop (i * e + o)).take n) = some (f, ps)) :
    ∃ vs : Array Value, (∀ w', ExtW w w' → (Instr.loadAt T (a.eval x)).run P w' = .ok (.agg vs) w') ∧ RP w (Gd C s.rows m w f) (.agg ps) (.agg vs) := by
  obtain ⟨b, cur, hv, _, hbk, hl, hr, h1⟩ := h.var hx hrow
  obtain ⟨c1, c2⟩ := collectC_get hps
  have hn : ps.length = n := by rw [← c1]; simp; omega
  have hget : ∀ j, ((cur.toList.drop (i * e + o)).take n)[j]? = if j < n then cur[i * e + o + j]? else none := by
    intro j
    rw [List.getElem?_take]
    split
    · rw [List.getElem?_drop]; simp
    · rfl
  refine ⟨((cur.toList.drop (i * e + o)).take n).toArray, fun w' hw' => ?_, ?_⟩
  · rw [hv]
    refine run_loadAt_mid w' b (i * e + o) T _ D (fun j v hj => ?_) hT hD (by rw [hinf]; simp [hsz]; omega)
    rw [hget] at hj
    split at hj
    · exact hw'.cell (by rw [cell_of_row w b _ cur R (0, 0) hbk]; exact hj)
    · cases hj
  · refine .agg ps _ (by simp; omega) (fun j c hc => ?_) (fun j c u hc hu => ?_)
    · obtain ⟨g, h3, _⟩ := c2 j c hc
      have hj : j < n := by rw [← hn]; exact (List.getElem?_eq_some_iff.1 hc).1
      rw [List.getElem?_take, if_pos hj, List.getElem?_drop] at h3
      have hlt : i * e + o + j < cur.size := by omega
      have hu := Array.getElem?_eq_getElem hlt
      exact (hr _ _ _ h3 hu).pv_inv.notAgg (h1 _ _ hu)
    · obtain ⟨g, h3, h4⟩ := c2 j c hc
      have hj : j < n := by rw [← hn]; exact (List.getElem?_eq_some_iff.1 hc).1
      rw [List.getElem?_take, if_pos hj, List.getElem?_drop] at h3
      have hu : ((cur.toList.drop (i * e + o)).take n)[j]? = some u := by simpa using hu
      rw [hget, if_pos hj] at hu
      exact RP.flag (G := Gd C s.rows m w) (fun b hb => hb.weak) (hr _ _ _ h3 hu).pv_inv h4

/-- A struct is read from a variable. -/
theorem lt_load_varS {x : Operand} {T id e i o R n : Nat} {cs : List SV} {f : Bool} {ps : List PV} {D : TypeDesc} {inf : TypeInfo} (hx : getO s.env x = .ptr id e i o) (hrow : s.rows[id]? = some (.var R cs))
    (hT : P.underlying T = some D) (hD : D.isRow = true) (hinf : P.info? T = some inf) (hsz : inf.size = n) (hle : Nat.ble (i * e + o + n) cs.length = true) (hps : collectC ((cs.drop (i * e + o)).take n) = some (f, ps)) :
    Lt P C s ⟨some t, .load T x, ty, pos, af, none⟩ (.pv f (.agg ps)) := by
  intro m a w hs
  obtain ⟨vs, h1, h2⟩ := load_cells hs hx hrow hT hD hinf hsz (Nat.le_of_ble_eq_true hle) hps
  exact ⟨.agg vs, fun w' hw' => by simp [execOp, h1 w' hw'], .pv _ _ _ h2⟩

theorem vo_load_varS {x : Operand} {T id e i o R n : Nat} {cs : List SV} {f : Bool} {ps : List PV} {D : TypeDesc} {inf : TypeInfo} (ht : Nat.blt t s.n = true) (hx : getO s.env x = .ptr id e i o) (hrow : s.rows[id]? = some (.var R cs))
    (hT : P.underlying T = some D) (hD : D.isRow = true) (hinf : P.info? T = some inf) (hsz : inf.size = n) (hle : Nat.ble (i * e + o + n) cs.length = true) (hps : collectC ((cs.drop (i * e + o)).take n) = some (f, ps))
    (next : VO P C ops rest Q (s.put t (.pv f (.agg ps)))) : VO P C ops (⟨some t, .load T x, ty, pos, af, none⟩ :: rest) Q s := vo_pure ht (lt_load_varS hx hrow hT hD hinf hsz hle hps) next

/-- A struct is read where nobody writes any more. -/
theorem lt_load_adrS {x : Operand} {T n : Nat} {cs : List PV} {f : Bool} {D : TypeDesc} {inf : TypeInfo} (hx : getO s.env x = .adr f cs)
    (hT : P.underlying T = some D) (hD : D.isRow = true) (hinf : P.info? T = some inf) (hsz : inf.size = n) (hle : Nat.ble n cs.length = true) :
    Lt P C s ⟨some t, .load T x, ty, pos, af, none⟩ (.pv f (.agg (cs.take n))) := by
  intro m a w hs
  have hle := Nat.le_of_ble_eq_true hle
  have hv := hs.get x
  rw [hx] at hv
  generalize hav : a.eval x = v at hv
  cases hv with
  | adr _ _ ad fv hsp hg h1 hc hr =>
    have e0 : ad = ⟨ad.block, ad.off, none⟩ := by obtain ⟨b, o, sp⟩ := ad; simp only at hsp; subst hsp; rfl
    have hlen : ((List.range n).map fv).length = n := by simp
    refine ⟨.agg ((List.range n).map fv).toArray, fun w' hw' => ?_, ?_⟩
    · have := run_loadAt_mid (P := P) w' ad.block ad.off T ((List.range n).map fv) D (fun j u hj => ?_) hT hD (by rw [hinf]; simp [hsz])
      · rw [e0] at hav
        simp [execOp, hav, this]
      · have hjn : j < n := by rw [← hlen]; exact (List.getElem?_eq_some_iff.1 hj).1
        simp [hjn] at hj
        subst hj
        exact hw'.cell (hc j _ (List.getElem?_eq_getElem (by omega)))
    · refine .pv _ _ _ (.agg _ _ (by simp; omega) (fun j c hj => ?_) (fun j c u hj hu => ?_))
      · rw [List.getElem?_take] at hj
        split at hj
        · exact h1 j c hj
        · cases hj
      · rw [List.getElem?_take] at hj
        split at hj
        · rename_i hjn
          simp [hjn] at hu
          subst hu
          exact hr j c hj
        · cases hj

theorem vo_load_adrS {x : Operand} {T n : Nat} {cs : List PV} {f : Bool} {D : TypeDesc} {inf : TypeInfo} (ht : Nat.blt t s.n = true) (hx : getO s.env x = .adr f cs)
    (hT : P.underlying T = some D) (hD : D.isRow = true) (hinf : P.info? T = some inf) (hsz : inf.size = n) (hle : Nat.ble n cs.length = true)
    (next : VO P C ops rest Q (s.put t (.pv f (.agg (cs.take n))))) : VO P C ops (⟨some t, .load T x, ty, pos, af, none⟩ :: rest) Q s := vo_pure ht (lt_load_adrS hx hT hD hinf hsz hle) next

/-- A field of one cell. -/
theorem lt_field1 {x : Operand} {S k : Nat} {cs : List PV} {c : PV} {f : Bool} {fs : Array Field} {fd : Field} {D : TypeDesc} (hx : getO s.env x = .pv f (.agg cs)) (hS : P.underlying S = some (.struct fs)) (hk : fs[k]? = some fd)
    (hT : P.underlying fd.type = some D) (hD : D.isRow = false) (hc : cs[fd.offset]? = some c) :
    Lt P C s ⟨some t, .field S x k, ty, pos, af, none⟩ (.pv (f || c.scal) c) := by
  intro m a w hs
  have hv := hs.get x
  rw [hx] at hv
  have hv := hv.pv_inv
  generalize hav : a.eval x = v at hv
  cases hv with
  | agg _ vs hl h1 h =>
    have hlt : fd.offset < vs.size := by rw [hl]; exact (List.getElem?_eq_some_iff.1 hc).1
    have hu := Array.getElem?_eq_getElem hlt
    refine ⟨vs[fd.offset], fun w' _ => ?_, ?_⟩
    · have hagg : (isAgg fd.type).run P w' = .ok false w' := by
        cases D <;> simp_all [isAgg, run_underlying hT]
      simp [execOp, hav, Instr.field, run_underlying hS, hk, asAgg, part, hagg, hu]
    · have hp := h _ c _ hc hu
      cases hsc : c.scal with
      | true => simp only [Bool.or_true]; exact .pv _ _ _ (hp.scal_any hsc)
      | false => simp only [Bool.or_false]; exact .pv _ _ _ hp

theorem vo_field1 {x : Operand} {S k : Nat} {cs : List PV} {c : PV} {f : Bool} {fs : Array Field} {fd : Field} {D : TypeDesc} (ht : Nat.blt t s.n = true) (hx : getO s.env x = .pv f (.agg cs)) (hS : P.underlying S = some (.struct fs)) (hk : fs[k]? = some fd)
    (hT : P.underlying fd.type = some D) (hD : D.isRow = false) (hc : cs[fd.offset]? = some c)
    (next : VO P C ops rest Q (s.put t (.pv (f || c.scal) c))) : VO P C ops (⟨some t, .field S x k, ty, pos, af, none⟩ :: rest) Q s := vo_pure ht (lt_field1 hx hS hk hT hD hc) next

/-- A struct is written into a variable. -/
theorem vo_store_varS {x y : Operand} {T id e i o R : Nat} {cs : List SV} {f : Bool} {ps : List PV} {inf : TypeInfo} (hx : getO s.env x = .ptr id e i o) (hrow : s.rows[id]? = some (.var R cs))
    (hy : getO s.env y = .pv f (.agg ps)) (hinf : P.info? T = some inf) (hsz : inf.size = ps.length) (hle : Nat.ble (i * e + o + ps.length) cs.length = true)
    (next : VO P C ops rest Q ⟨s.n, s.env, s.rows.set id (.var R (cs.take (i * e + o) ++ ps.map (fun p => .pv (f || p.scal) p) ++ cs.drop (i * e + o + ps.length)))⟩) :
    VO P C ops (⟨none, .store T x y, ty, pos, af, none⟩ :: rest) Q s := by
  refine vo_unit (s1 := { s with rows := s.rows.set id (.var R (cs.take (i * e + o) ++ ps.map (fun p => .pv (f || p.scal) p) ++ cs.drop (i * e + o + ps.length))) }) (fun m a w hs => ?_) next
  have hle := Nat.le_of_ble_eq_true hle
  obtain ⟨b, cur, hv, hm, hbk, hl, hr, h1⟩ := hs.var hx hrow
  have hvy := hs.get y
  rw [hy] at hvy
  have hvy := hvy.pv_inv
  generalize hav : a.eval y = v at hvy
  cases hvy with
  | agg _ vs hvl h2 h =>
    have hone : ∀ u ∈ vs.toList, u.oneCell' = true := by
      intro u hu
      obtain ⟨j, hj⟩ := List.getElem?_of_mem hu
      have hjl : j < ps.length := by rw [← hvl]; simpa using (List.getElem?_eq_some_iff.1 hj).1
      have hc := List.getElem?_eq_getElem hjl
      exact (h j _ u hc (by simpa using hj)).oneCell (h2 j _ hc)
    have hrun := run_storeCells_at P b (i * e + o) R vs.toList 0 cur w hbk (by simp; omega) hone
    simp only [Nat.add_zero, Array.length_toList, hvl] at hrun
    let cur' := (cur.toList.take (i * e + o) ++ vs.toList ++ cur.toList.drop (i * e + o + ps.length)).toArray
    refine ⟨w.setRow b cur', m, ?_, ?_⟩
    · simp [execOp, Instr.storeAt, hv, hav, Instr.sureAddr, storeVar, sizeOf, typeInfo, hinf, hsz, Value.cells, hvl, hrun, cur']
    · refine hs.storeRow ⟨_, hrow, rfl⟩ (fun b' e => by cases e; rw [hm]; rfl) (grown_setRow w b cur') _ (fun hG => ?_)
      rw [hm]
      have hheap := setRow_heap w b cur cur' R _ hbk
      have hget : ∀ j, cur'[j]? = if j < i * e + o then cur[j]? else if j < i * e + o + ps.length then vs[j - (i * e + o)]? else cur[j]? := by
        intro j
        simp only [cur', List.getElem?_toArray]
        rw [List.getElem?_append, List.getElem?_append]
        simp only [List.length_append, List.length_take, Array.length_toList, hvl]
        have e1 : min (i * e + o) cur.size = i * e + o := by omega
        rw [e1]
        split
        · split
          · rw [List.getElem?_take, if_pos (by assumption)]; simp
          · simp
        · rw [List.getElem?_drop, show i * e + o + ps.length + (j - (i * e + o + ps.length)) = j by omega]; simp
      have hget2 : ∀ j, (cs.take (i * e + o) ++ ps.map (fun p => SV.pv (f || p.scal) p) ++ cs.drop (i * e + o + ps.length))[j]? = if j < i * e + o then cs[j]? else if j < i * e + o + ps.length then (ps.map (fun p => SV.pv (f || p.scal) p))[j - (i * e + o)]? else cs[j]? := by
        intro j
        rw [List.getElem?_append, List.getElem?_append]
        simp only [List.length_append, List.length_take, List.length_map]
        have e1 : min (i * e + o) cs.length = i * e + o := by omega
        rw [e1]
        split
        · split
          · rw [List.getElem?_take, if_pos (by assumption)]
          · rfl
        · rw [if_neg (by omega), List.getElem?_drop, show i * e + o + ps.length + (j - (i * e + o + ps.length)) = j by omega]
      refine .var b R _ cur' hheap (by simp [cur']; omega) (fun j c u hc hu => ?_) (fun j u hu => ?_)
      · rw [hget2] at hc
        rw [hget] at hu
        split at hc
        · rename_i h3; rw [if_pos h3] at hu; exact (hr j c u hc hu).mono hG (Nat.le_refl _) (fun _ _ => rfl)
        · rename_i h3
          rw [if_neg h3] at hu
          split at hc
          · rename_i h4
            rw [if_pos h4] at hu
            simp only [List.getElem?_map, Option.map_eq_some_iff] at hc
            obtain ⟨c', hc', rfl⟩ := hc
            have hp := h _ c' u hc' hu
            cases hsc : c'.scal with
            | true => simp only [Bool.or_true]; exact .pv _ _ _ (hp.scal_any hsc)
            | false => simp only [Bool.or_false]; exact .pv _ _ _ (hp.mono (hG f))
          · rename_i h4; rw [if_neg h4] at hu; exact (hr j c u hc hu).mono hG (Nat.le_refl _) (fun _ _ => rfl)
      · rw [hget] at hu
        split at hu
        · exact h1 j u hu
        · split at hu
          · exact hone u (by rw [Array.mem_toList_iff]; exact Array.mem_of_getElem? hu)
          · exact h1 j u hu
end
end Go.Vl

/- Functions that hand back structs: the way in, and what is handed back. -/
namespace Go.Vl
set_option linter.unusedVariables false
set_option linter.unusedSimpArgs false
open Go.RowKit

/-- What a result holds at a function's end. -/
def resSV (s : St) : Nat × Option (Nat × Nat) → SV
  | (t, none) => look s.env t
  | (a, some _) => match look s.env a with
    | .ptr id 0 0 0 => match s.rows[id]? with
      | some (.var _ cs) => match collectC cs with
        | some (f, ps) => .pv f (.agg ps)
        | none => .any
      | _ => .any
    | _ => .any

def resVar : Nat × Option (Nat × Nat) → ResultVar
  | (t, none) => .tmp t
  | (a, some (T, _)) => .cell a T

/-- Is the result there? -/
def resOK (s : St) : Nat × Option (Nat × Nat) → Bool
  | (_, none) => true
  | (a, some (_, n)) => match look s.env a with
    | .ptr id 0 0 0 => match s.rows[id]? with
      | some (.var _ cs) => Nat.beq cs.length n && (collectC cs).isSome
      | _ => false
    | _ => false

/-- The types of the results that lie in memory. -/
def resT (P : Program) : Nat × Option (Nat × Nat) → Prop
  | (_, none) => True
  | (_, some (T, n)) => ∃ D inf, P.underlying T = some D ∧ D.isRow = true ∧ P.info? T = some inf ∧ inf.size = n

def resM (tmps : Array Value) : ResultVar → Sem Value
  | .tmp t => pure (tmps.getD t undef)
  | .cell a t => do loadVar t (← asAddr (tmps.getD a undef))

theorem results_eq (fn : Func) (tmps : Array Value) : results fn tmps = (do
  let vs ← fn.results.mapM (resM tmps)
  pure (if h : vs.size = 1 then vs[0] else .tuple vs)) := by
  unfold results
  congr 1

theorem ElInfo.of_struct {P : Program} {T el by' : Nat} {zs : List PV} (hT : P.underlying T = some (.slice el)) (hZ : StZ P el zs) (hb : ∀ i, P.info? el = some i → i.bytes = by') (h0 : zs ≠ []) : ElInfo P T el zs.length by' (.agg zs) := by
  obtain ⟨_, i, zc, hi, hs, hz, hr⟩ := hZ
  have h := hr default (fun _ => False)
  cases h with
  | agg _ _ hl h1 h =>
    exact ⟨hT, ⟨i, .agg zc, hi, hs, hb i hi, hz, hl, hr⟩, ⟨rfl, h1⟩, List.length_pos_iff.2 h0⟩

section
variable {P : Program}

theorem resTs1 {r1 : Nat × Option (Nat × Nat)} (h1 : resT P r1) : ∀ r ∈ [r1], resT P r := by simp [h1]
theorem resTs2 {r1 r2 : Nat × Option (Nat × Nat)} (h1 : resT P r1) (h2 : resT P r2) : ∀ r ∈ [r1, r2], resT P r := by simp [h1, h2]
/-- What is handed back at such a function's end: values alone; no new rows. -/
def retS (rs : List (Nat × Option (Nat × Nat))) (k : Nat) (R : List SV → List Row → Prop) (e : Go.Exit) (s : St) : Prop :=
  (e = .normal ∨ e = .ret) ∧ (k ≤ s.rows.length ∧ (rs.map (resSV s)).all (SV.bdd k) = true ∧ (s.rows.take k).all (Row.bdd k) = true ∧ rs.all (resOK s) = true) ∧ R (rs.map (resSV s)) (s.rows.take k)

end
end Go.Vl

/- Rows whose slices are their own: made, written, lent in part. -/
namespace Go.Vl
set_option linter.unusedVariables false
set_option linter.unusedSimpArgs false
open Go.RowKit

/-- No slice but the nil one. -/
def plainB : PV → Bool
  | .sl (some true) _ [] => true
  | p => p.scal

def plainX (xs : List PV) : Prop := ∀ x ∈ xs, ∀ c ∈ x.cells, plainB c = true
theorem plain_ints (l : List Int) : plainX (l.map intP) := by
  intro x hx c hc
  obtain ⟨n, _, rfl⟩ := List.mem_map.1 hx
  simp [PV.cells] at hc
  subst hc
  rfl
theorem plain_rep (n e : Nat) : plainX (List.replicate n (.sl (some true) e [])) := by
  intro x hx c hc
  rw [List.eq_of_mem_replicate hx] at hc
  simp [PV.cells] at hc
  subst hc
  rfl

theorem tp_plain {w : World} {G : Nat → Prop} {c : PV} {u : Value} (h : RP w G c u) (hp : plainB c = true) {S : Nat → Prop} (hS : ∀ b, ¬ S b) : TP w c u S := by
  cases c with
  | sl nl e xs =>
    have h0 : nl = some true ∧ xs = [] := by unfold plainB at hp; split at hp <;> simp_all [PV.scal]
    obtain ⟨rfl, rfl⟩ := h0
    cases h with
    | nilsl _ _ h =>
      have hSS : ∀ b, S b ↔ blk (.slice none 0 0) = some b ∨ ∃ q : Nat, (fun _ _ => False : Nat → Nat → Prop) q b := by
        intro b
        constructor
        · intro h; exact (hS b h).elim
        · rintro (h | ⟨_, h⟩)
          · simp [blk] at h
          · exact h.elim
      exact .sl 0 e (some true) [] _ [] (fun _ _ => False) S (World.ownsRow_nil w 0 0 e) (fun _ => rfl) (fun h => by cases h) (fun i x hx => by simp at hx) (fun i x j c u hx => by simp at hx) (fun _ _ _ h => h.elim) (fun _ _ h => h.elim) (fun _ _ _ h => h) hSS
    | sl nl e xs a len cap f h => exact (h rfl).elim
  | agg cs => simp [plainB, PV.scal] at hp
  | int k n => exact .scal _ _ S rfl (h.scal_any rfl) hS
  | bool b => exact .scal _ _ S rfl (h.scal_any rfl) hS
  | str b => exact .scal _ _ S rfl (h.scal_any rfl) hS
  | gone => simp [plainB, PV.scal] at hp
  | ifc t p => simp [plainB, PV.scal] at hp
  | nilifc => simp [plainB, PV.scal] at hp
  | fn => simp [plainB, PV.scal] at hp

theorem oneCell_cells {u : Value} (h : u.oneCell' = true) : u.cells.toList = [u] := by
  cases u <;> simp_all [Value.cells, Value.oneCell']

theorem TP.cells1 {w : World} {p : PV} {v : Value} {S : Nat → Prop} (h : TP w p v S) : p.cells = [p] := by
  cases h with
  | scal p v S hs => cases p <;> first | rfl | simp [PV.scal] at hs
  | sl => rfl
  | gone => rfl

theorem own_tp {w : World} {G : Bool → Nat → Prop} {m : Nat → MV} {N : Nat} {mv : MV} {t : TypeId} {e : Nat} {nl : Option Bool} {fr : Bool} {xs : List PV} (h : RowOK w G m N mv (.own t e nl fr xs)) (hp : plainX xs) :
    TP w (.sl nl e xs) mv.v mv.S ∧ RowOK w G m N mv (.tree t e nl none xs) := by
  cases h with
  | own v t e nl fr xs vs hown h1 h2 hw hr =>
    have key : ∀ (i : Nat) (x : PV) (j : Nat) (c : PV) (u : Value), xs[i]? = some x → x.cells[j]? = some c → vs[i * e + j]? = some u → TP w c u (fun _ => False) := by
      intro i x j c u hx hc hu
      obtain ⟨u', hu', hq⟩ := hr i x j c hx hc
      rw [hu] at hu'
      cases hu'
      exact tp_plain hq (hp x (List.mem_of_getElem? hx) c (List.mem_of_getElem? hc)) (fun _ h => h)
    have hS : ∀ b, (MV.of v).S b ↔ blk v = some b ∨ ∃ q : Nat, (fun _ _ => False : Nat → Nat → Prop) q b := fun b => ⟨.inl, fun h => h.elim id (fun ⟨_, h⟩ => h.elim)⟩
    exact ⟨.sl t e nl xs v vs (fun _ _ => False) _ hown h1 h2 hw key (fun _ _ _ h => h.elim) (fun _ _ h => h.elim) (fun _ _ _ h => h) hS,
      .tree (MV.of v) t e nl none xs vs (fun _ _ => False) hown h1 h2 hw (fun i x j c u hx hc hu => .inl (key i x j c u hx hc hu)) (fun _ _ _ h => h.elim) (fun _ _ h => h.elim) (fun _ _ _ h => h) hS (fun _ _ h => by cases h)⟩

section
variable {P : Program} {C : Ctx} {Q : Go.Exit → St → Prop} {s : St} {ops : Array Oper} {rest : List Oper} {t : Nat} {ty : TypeId} {pos : String} {af : Array Edge}

/-- A row without slices in it is one whose slices are its own. -/
theorem SimM.totree {m : Nat → MV} {a : Act} {w : World} (hs : SimM C s m a w) (id : Nat) {el e : Nat} {nl : Option Bool} {f : Bool} {xs : List PV} (hrow : s.rows[id]? = some (.own el e nl f xs)) (hp : plainX xs) :
    SimM C ⟨s.n, s.env, s.rows.set id (.tree el e nl none xs)⟩ m a w :=
  hs.storeRow (w' := w) (bo := none) ⟨_, hrow, rfl⟩ (fun _ e => by cases e) ⟨rfl, rfl, rfl, Nat.le_refl _, fun _ _ _ => rfl⟩ _ (fun hG =>
    RowOK.mono hG (Nat.le_refl _) (fun _ _ => rfl) (own_tp (hs.rows id _ hrow) hp).2 (fun _ _ _ => rfl))

theorem vc_totree {code : Code} (id : Nat) {el e : Nat} {nl : Option Bool} {f : Bool} {xs : List PV} (hrow : s.rows[id]? = some (.own el e nl f xs)) (hp : plainX xs)
    (next : VC P C code Q ⟨s.n, s.env, s.rows.set id (.tree el e nl none xs)⟩) : VC P C code Q s := fun a w ⟨m, hs⟩ => next a w ⟨m, hs.totree id hrow hp⟩
theorem vo_totree {l : List Oper} (id : Nat) {el e : Nat} {nl : Option Bool} {f : Bool} {xs : List PV} (hrow : s.rows[id]? = some (.own el e nl f xs)) (hp : plainX xs)
    (next : VO P C ops l Q ⟨s.n, s.env, s.rows.set id (.tree el e nl none xs)⟩) : VO P C ops l Q s := fun a w ⟨m, hs⟩ => next a w ⟨m, hs.totree id hrow hp⟩

theorem RS.killV1 {w w' : World} {G G' : Bool → Nat → Prop} {m m' : Nat → MV} {N id : Nat} (hG : ∀ fr b, G fr b → G' fr b ∧ w'.heap[b]? = w.heap[b]?)
    (hm : ∀ i, i ≠ id → (m' i).v = (m i).v) {sv : SV} {v : Value} (h : RS w G m N sv v) : RS w' G' m' N (sv.kill1 id) v := by
  cases h with
  | any v => exact .any v
  | val u => exact .val _
  | und => exact .und
  | pv fr p v h => exact .pv fr p v (h.mono (hG fr))
  | ref i hi =>
    simp only [SV.kill1]
    split
    · exact .any _
    · rename_i hne; rw [← hm i hne]; exact .ref i hi
  | ptr i e k o b hi hb =>
    simp only [SV.kill1]
    split
    · exact .any _
    · rename_i hne; exact .ptr i e k o b hi (by rw [hm i hne]; exact hb)
  | adr fr cs a f hsp hg h1 hc hr =>
    refine .adr fr cs a f hsp (fun hne => (hG fr _ (hg hne)).1) h1 (fun j c hj => ?_) (fun j c hj => (hr j c hj).mono (hG fr))
    have hne : cs ≠ [] := by intro h0; subst h0; simp at hj
    have := (hG fr _ (hg hne)).2
    rw [← hc j c hj]
    simp [World.cell?, this]
  | tup vs us hl h => exact .any _
  | ag vs us hl h h1 => exact .any _
  | sub i e l h c _ hid hs =>
    simp only [SV.kill1]
    split
    · exact .any _
    · rename_i hne; exact .sub i e l h c v hid (by rw [hm i hne]; exact hs)
  | clo f ids us hl h =>
    simp only [SV.kill1, cloK]
    cases h9 : memN id ids with
    | true => exact .any _
    | false =>
      refine .clo f ids us hl (fun j i u h1 h2 => ?_)
      obtain ⟨g1, b, g2, g3⟩ := h j i u h1 h2
      exact ⟨g1, b, by rw [hm i (fun e => by subst e; rw [memN_iff.2 (List.mem_of_getElem? h1)] at h9; cases h9)]; exact g2, g3⟩

theorem RS.killV {w w' : World} {G G' : Bool → Nat → Prop} {m m' : Nat → MV} {N id : Nat} (hG : ∀ fr b, G fr b → G' fr b ∧ w'.heap[b]? = w.heap[b]?)
    (hm : ∀ i, i ≠ id → (m' i).v = (m i).v) {sv : SV} {v : Value} (h : RS w G m N sv v) : RS w' G' m' N (sv.kill id) v := by
  cases h with
  | any v => exact .any v
  | val u => exact .val _
  | und => exact .und
  | pv fr p v h => exact .pv fr p v (h.mono (hG fr))
  | ref i hi =>
    simp only [SV.kill]
    split
    · exact .any _
    · rename_i hne; rw [← hm i hne]; exact .ref i hi
  | ptr i e k o b hi hb =>
    simp only [SV.kill]
    split
    · exact .any _
    · rename_i hne; exact .ptr i e k o b hi (by rw [hm i hne]; exact hb)
  | adr fr cs a f hsp hg h1 hc hr =>
    refine .adr fr cs a f hsp (fun hne => (hG fr _ (hg hne)).1) h1 (fun j c hj => ?_) (fun j c hj => (hr j c hj).mono (hG fr))
    have hne : cs ≠ [] := by intro h0; subst h0; simp at hj
    have := (hG fr _ (hg hne)).2
    rw [← hc j c hj]
    simp [World.cell?, this]
  | tup vs us hl h => exact .any _
  | ag vs us hl h h1 =>
    refine .ag _ us (by simpa using hl) (fun j c u hc hu => ?_) h1
    simp only [List.getElem?_map, Option.map_eq_some_iff] at hc
    obtain ⟨c', hc', rfl⟩ := hc
    exact (h j c' u hc' hu).killV1 hG hm
  | sub i e l h c _ hid hs =>
    simp only [SV.kill]
    split
    · exact .any _
    · rename_i hne; exact .sub i e l h c v hid (by rw [hm i hne]; exact hs)
  | clo f ids us hl h =>
    simp only [SV.kill, cloK]
    cases h9 : memN id ids with
    | true => exact .any _
    | false =>
      refine .clo f ids us hl (fun j i u h1 h2 => ?_)
      obtain ⟨g1, b, g2, g3⟩ := h j i u h1 h2
      exact ⟨g1, b, by rw [hm i (fun e => by subst e; rw [memN_iff.2 (List.mem_of_getElem? h1)] at h9; cases h9)]; exact g2, g3⟩

theorem RowOK.killV {w w' : World} {G G' : Bool → Nat → Prop} {m m' : Nat → MV} {N id : Nat} {v : MV} {r : Row} (hG : ∀ fr b, G fr b → G' fr b ∧ w'.heap[b]? = w.heap[b]?)
    (hm : ∀ i, i ≠ id → (m' i).v = (m i).v) (h : RowOK w G m N v r) (hb : r.live = true → ∀ b, v.S b → w'.heap[b]? = w.heap[b]?) : RowOK w' G' m' N v (r.kill id) := by
  cases h with
  | dead v => exact .dead v
  | own v t e nl fr xs vs hown h1 h2 hw hr =>
    refine .own v t e nl fr xs vs (ownsRow_blk hown (hb rfl)) h1 h2 hw (fun i x j c hx hc => ?_)
    obtain ⟨u, hu, hp⟩ := hr i x j c hx hc
    exact ⟨u, hu, hp.mono (hG fr)⟩
  | var b t cs cur hbk hl hr h1 =>
    refine .var b t _ cur (by rw [hb rfl b rfl]; exact hbk) (by simpa using hl) (fun j c u hc hu => ?_) h1
    simp only [List.getElem?_map, Option.map_eq_some_iff] at hc
    obtain ⟨c', hc', rfl⟩ := hc
    exact (hr j c' u hc' hu).killV hG hm
  | gh mv us cs hl h =>
    refine .gh _ us _ (by simpa using hl) (fun j c u hc hu => ?_)
    simp only [List.getElem?_map, Option.map_eq_some_iff] at hc
    obtain ⟨c', hc', rfl⟩ := hc
    exact (h j c' u hc' hu).killV hG hm
  | mp b g es clock hbk hm' => exact .mp b g es clock (by rw [hb rfl b rfl]; exact hbk) hm'
  | tree mv t e nl h xs vals Sf hown h1 h2 hw hr hd hn hz hS hkn =>
    exact .tree _ t e nl h xs vals Sf (ownsRow_blk hown fun b h => hb rfl b ((hS b).2 (.inl h))) h1 h2 hw
      (fun i x j c u hx hc hu => (hr i x j c u hx hc hu).mono fun b h => hb rfl b ((hS b).2 (.inr ⟨_, h⟩))) hd hn hz hS hkn

/-- A row takes another one in. -/
theorem SimM.absorb {m : Nat → MV} {a : Act} {w w' : World} (h : SimM C s m a w) {id j : Nat} (hne : id ≠ j) (hid : liveAt s.rows id) (hj : liveAt s.rows j) (hnb : C.nb ≤ id) (hnj : C.nb ≤ j)
    {b0 : Nat} (hb0 : (m id).S b0) (hg : w.grownBy w' (some b0)) (S' : Nat → Prop) (hS' : ∀ b, S' b → (m id).S b ∨ (m j).S b) (r : Row)
    (hr : (∀ fr b, Gd C s.rows m w fr b → Gd C (((s.rows.map (Row.kill j)).set j .dead).set id r) (updM m id ⟨(m id).v, S'⟩) w' fr b ∧ w'.heap[b]? = w.heap[b]?) →
      RowOK w' (Gd C (((s.rows.map (Row.kill j)).set j .dead).set id r) (updM m id ⟨(m id).v, S'⟩) w') (updM m id ⟨(m id).v, S'⟩) s.rows.length ⟨(m id).v, S'⟩ r) :
    SimM C ⟨s.n, killE j s.env, ((s.rows.map (Row.kill j)).set j .dead).set id r⟩ (updM m id ⟨(m id).v, S'⟩) a w' := by
  have hidl : id < s.rows.length := by
    obtain ⟨q, hq, _⟩ := hid
    exact (List.getElem?_eq_some_iff.1 hq).1
  have hjl : j < s.rows.length := by
    obtain ⟨q, hq, _⟩ := hj
    exact (List.getElem?_eq_some_iff.1 hq).1
  have hlive : ∀ i, liveAt (((s.rows.map (Row.kill j)).set j .dead).set id r) i → i ≠ j ∧ liveAt s.rows i := by
    intro i ⟨q, hq, hv⟩
    rw [List.getElem?_set] at hq
    split at hq
    · rename_i e; subst e; exact ⟨hne, hid⟩
    · rw [List.getElem?_set] at hq
      split at hq
      · simp [hjl] at hq; subst hq; cases hv
      · rename_i e; exact ⟨Ne.symm e, liveAt_kill ⟨q, hq, hv⟩⟩
  have hmv : ∀ i, (updM m id ⟨(m id).v, S'⟩ i).v = (m i).v := by
    intro i
    by_cases e : i = id
    · subst e; rw [updM_same]
    · rw [updM_ne _ _ e]
  have hSof : ∀ i b, i ≠ j → liveAt s.rows i → (updM m id ⟨(m id).v, S'⟩ i).S b → ∃ k, liveAt s.rows k ∧ (m k).S b ∧ (k = i ∨ (i = id ∧ k = j)) := by
    intro i b hij hl hb
    by_cases e : i = id
    · subst e
      rw [updM_same] at hb
      rcases hS' b hb with h1 | h1
      · exact ⟨i, hl, h1, .inl rfl⟩
      · exact ⟨j, hj, h1, .inr ⟨rfl, rfl⟩⟩
    · rw [updM_ne _ _ e] at hb
      exact ⟨i, hl, hb, .inl rfl⟩
  have hG : ∀ fr b, Gd C s.rows m w fr b → Gd C (((s.rows.map (Row.kill j)).set j .dead).set id r) (updM m id ⟨(m id).v, S'⟩) w' fr b ∧ w'.heap[b]? = w.heap[b]? := by
    refine Gd.step (fun b => b = b0) hg.size (fun k hk hn => hg.block k hk (fun e => hn (Option.some.inj e))) (fun k hk => ⟨id, hid, by rw [hk]; exact hb0⟩) (fun b _ ⟨i, hl, hbk⟩ => ?_)
    obtain ⟨h1, h2⟩ := hlive i hl
    obtain ⟨k, h3, h4, _⟩ := hSof i b h1 h2 hbk
    exact ⟨k, h3, h4⟩
  exact {
    defs := h.defs
    size := h.size
    os := hg.os.trans h.os
    tape := hg.tape.trans h.tape
    output := hg.output.trans h.output
    hsz := Nat.le_trans h.hsz hg.size
    old := fun k hk hn => (hg.block k (by have := h.hsz; omega) (fun e => by have := h.newb id b0 hnb hid hb0; cases e; omega)).trans (h.old k hk hn)
    bor := fun i hi => by rw [updM_ne _ _ (by omega)]; exact h.bor i hi
    nbl := by have := h.nbl; simp; omega
    newb := fun i b hi hl hbk => by
      obtain ⟨h1, h2⟩ := hlive i hl
      obtain ⟨k, h3, h4, h5⟩ := hSof i b h1 h2 hbk
      exact h.newb k b (by rcases h5 with rfl | ⟨_, rfl⟩ <;> omega) h3 h4
    dist := fun i1 i2 b h1 h2 hb1 hb2 => by
      obtain ⟨a1, a2⟩ := hlive i1 h1
      obtain ⟨c1, c2⟩ := hlive i2 h2
      obtain ⟨k1, k2, k3, k4⟩ := hSof i1 b a1 a2 hb1
      obtain ⟨l1, l2, l3, l4⟩ := hSof i2 b c1 c2 hb2
      have e := h.dist k1 l1 b k2 l2 k3 l3
      rcases k4 with rfl | ⟨rfl, rfl⟩ <;> rcases l4 with rfl | ⟨rfl, rfl⟩
      · exact e
      · exact absurd e a1
      · exact absurd e.symm c1
      · rfl
    rows := fun i q hq => by
      change (((s.rows.map (Row.kill j)).set j .dead).set id r)[i]? = some q at hq
      have hlen : (((s.rows.map (Row.kill j)).set j .dead).set id r).length = s.rows.length := by simp
      show RowOK w' _ _ (((s.rows.map (Row.kill j)).set j .dead).set id r).length _ q
      rw [hlen]
      rw [List.getElem?_set] at hq
      split at hq
      · rename_i e
        subst e
        simp [hidl] at hq
        subst hq
        rw [updM_same]
        exact hr hG
      · rename_i e
        rw [List.getElem?_set] at hq
        split at hq
        · simp [hjl] at hq; subst hq; exact .dead _
        · rename_i e2
          rw [getElem?_killRows] at hq
          simp only [Option.map_eq_some_iff] at hq
          obtain ⟨q', hq', rfl⟩ := hq
          rw [updM_ne _ _ (Ne.symm e)]
          exact RowOK.killV hG (fun k _ => hmv k) (h.rows i q' hq') (fun hd b hbk => hg.block b (h.lt ⟨q', hq', hd⟩ hbk) (fun eb => e (h.dist id i b hid ⟨q', hq', hd⟩ (by cases eb; exact hb0) hbk)))
    env := fun u => by
      show RS w' _ _ (((s.rows.map (Row.kill j)).set j .dead).set id r).length (look (killE j s.env) u) _
      have hlen : (((s.rows.map (Row.kill j)).set j .dead).set id r).length = s.rows.length := by simp
      rw [hlen, look_killE]
      exact (h.env u).killV hG (fun k _ => hmv k) }

/-- A row of the call's own goes into a place of a row whose slices are its own. -/
theorem vo_store_tree {x y : Operand} {T id j R i : Nat} {nl : Option Bool} {h : Option (Nat × Option Value)} {xs : List PV} {p : PV} {rj : Row} {inf : TypeInfo} (hx : getO s.env x = .ptr id 1 i 0) (hrow : s.rows[id]? = some (.tree R 1 nl h xs))
    (hh : h = none ∨ ∃ z, h = some (i, z)) (hy : getO s.env y = .ref j) (hrj : s.rows[j]? = some rj) (hlj : rj.live = true) (hp : p.fits 1) (hch : ∀ w G m N mv, RowOK w G m N mv rj → TP w p mv.v mv.S)
    (hne : Nat.beq id j = false) (hnb : C.nb ≤ id) (hnj : C.nb ≤ j) (hinf : P.info? T = some inf) (hsz : inf.size = 1) (hi : i < xs.length)
    (next : VO P C ops rest Q ⟨s.n, killE j s.env, ((s.rows.map (Row.kill j)).set j .dead).set id (.tree R 1 nl none (xs.set i p))⟩) :
    VO P C ops (⟨none, .store T x y, ty, pos, af, none⟩ :: rest) Q s := by
  refine vo_unit (s1 := ⟨s.n, killE j s.env, ((s.rows.map (Row.kill j)).set j .dead).set id (.tree R 1 nl none (xs.set i p))⟩) (fun m a w hs => ?_) next
  have hne : id ≠ j := fun e => by subst e; rw [Nat.beq_refl] at hne; cases hne
  obtain ⟨b, hv, hb, hid⟩ := hs.ptr hx
  obtain ⟨hvy, hjl⟩ := hs.row hy
  have hTj := hch _ _ _ _ _ (hs.rows j _ hrj)
  have hone := hTj.oneCell
  have hlid : liveAt s.rows id := ⟨_, hrow, rfl⟩
  have hljv : liveAt s.rows j := ⟨_, hrj, hlj⟩
  have hR := hs.rows id _ hrow
  have hdist := hs.dist
  generalize hmv : m id = v at *
  cases hR with
  | tree mv t' e nl h xs vals Sf hown h1 h2 hw hr hd hn hz hS hkn =>
    rcases hown.2 with ⟨e0, hn0⟩ | ⟨g, cap, cur, e0, _, hheap, hle, hmx, hcs, htk⟩
    · omega
    · have hgb : b = g := by rw [e0] at hb; simpa [blk] using hb.symm
      subst hgb
      have hblk : blk v.v = some b := by rw [e0]; rfl
      have hcur : i < cur.size := by rw [hcs]; omega
      have hcell : w.cell? ⟨b, i, none⟩ = some cur[i] := by
        rw [cell_of_row w b _ cur R (0, 0) hheap]; exact Array.getElem?_eq_getElem hcur
      have hfz : w.frozen? ⟨b, i, none⟩ = false := by simp [World.frozen?, hheap]
      have hcells : (m j).v.cells.toList = [(m j).v] := oneCell_cells hone
      have hcs1 : (m j).v.cells.size = 1 := by
        have := congrArg List.length hcells
        simpa using this
      let w' := w.setCell ⟨b, i, none⟩ (m j).v
      have hst : (store (⟨b, i, none⟩ : Addr) (m j).v).run P w = .ok () w' := by
        rw [run_store P w _ _ _ hone, hcell]
        simp [hfz, w']
      have hheap' : w'.heap[b]? = some (.cells (cur.setIfInBounds i (m j).v) R (0, 0)) := heap_setCell_same w b i cur R _ hheap
      have hoth : ∀ k, k ≠ b → w'.heap[k]? = w.heap[k]? := fun k hk => heap_setCell_other w ⟨b, i, none⟩ k _ (fun e => hk e)
      have hvl : vals.length = xs.length := by have := hown.1; omega
      have hSfb : ∀ q b', Sf q b' → b' ≠ b := fun q b' h e => hn q b' h (by rw [e]; exact hblk)
      have hjb : ∀ b', (m j).S b' → b' ≠ b := fun b' h e => hne (hdist id j b' hlid hljv (by rw [hmv]; exact (hS b').2 (.inl (by rw [e]; exact hblk))) h)
      let Sf' : Nat → Nat → Prop := fun q b' => if q = i then (m j).S b' else Sf q b'
      let S' : Nat → Prop := fun b' => blk v.v = some b' ∨ ∃ q, Sf' q b'
      have hg : w.grownBy w' (some b) := ⟨rfl, rfl, rfl, by simp [w', World.setCell], fun k _ hk => hoth k (fun e => hk (by rw [e]))⟩
      have hab := hs.absorb (w' := w') hne hlid hljv hnb hnj (b0 := b) (by rw [hmv]; exact (hS b).2 (.inl hblk)) hg S' (fun b' hb' => by
        rw [hmv]
        rcases hb' with h3 | ⟨q, h3⟩
        · exact .inl ((hS b').2 (.inl h3))
        · simp only [Sf'] at h3
          split at h3
          · exact .inr h3
          · exact .inl ((hS b').2 (.inr ⟨q, h3⟩))) (.tree R 1 nl none (xs.set i p)) (fun hG => by
        rw [hmv]
        refine .tree ⟨v.v, S'⟩ R 1 nl none (xs.set i p) (vals.set i (m j).v) Sf' ?_ h1 h2 ?_ ?_ ?_ ?_ ?_ (fun b' => Iff.rfl) (fun _ _ h => by cases h)
        · refine ⟨by simp; omega, .inr ⟨b, cap, _, by rw [List.length_set]; exact e0, Nat.zero_le _, hheap', by rw [List.length_set]; exact hle, hmx, by simp [hcs], ?_⟩⟩
          rw [List.length_set, Array.toList_setIfInBounds, List.take_set, htk]
        · intro k y hy
          rw [List.getElem?_set] at hy
          split at hy
          · cases hy; exact hp
          · exact hw k y hy
        · intro k y jj c u hy hc hu
          rw [List.getElem?_set] at hy
          have hjj : jj = 0 := by
            have hf : y.fits 1 := by
              split at hy
              · cases hy; exact hp
              · exact hw k y hy
            have := (List.getElem?_eq_some_iff.1 hc).1
            rw [hf.1] at this; omega
          subst hjj
          simp only [Nat.mul_one, Nat.add_zero] at hu ⊢
          rw [List.getElem?_set] at hu
          split at hy
          · rename_i eki
            subst eki
            · cases hy
              rw [if_pos rfl, if_pos (by omega)] at hu
              cases hu
              have hc1 : c = p := by
                rw [hTj.cells1] at hc
                simpa using hc.symm
              subst hc1
              refine .inl ?_
              have hSi : (fun b' => Sf' i b') = (m j).S := by funext b'; simp [Sf']
              show TP w' c (m j).v (fun b' => Sf' i b')
              rw [hSi]
              exact hTj.mono fun b' h => hoth b' (hjb b' h)
          · rename_i eki
            rw [if_neg eki] at hu
            have hSk : (fun b' => Sf' k b') = Sf k := by funext b'; simp [Sf', Ne.symm eki]
            show CellOK w' none k c u (fun b' => Sf' k b')
            rw [hSk]
            have h3 := hr k y 0 c u hy hc (by simpa using hu)
            simp only [Nat.mul_one, Nat.add_zero] at h3
            refine .inl ?_
            rcases h3 with h3 | ⟨h3, _⟩
            · exact h3.mono fun b' h => hoth b' (hSfb k b' h)
            · rcases hh with rfl | ⟨z, rfl⟩
              · cases h3
              · cases h3; exact absurd rfl eki
        · intro q q' b' h3 h4
          simp only [Sf'] at h3 h4
          split at h3 <;> split at h4
          · omega
          · exact (hne (hdist j id b' hljv hlid h3 (by rw [hmv]; exact (hS b').2 (.inr ⟨q', h4⟩))).symm).elim
          · exact (hne (hdist j id b' hljv hlid h4 (by rw [hmv]; exact (hS b').2 (.inr ⟨q, h3⟩))).symm).elim
          · exact hd q q' b' h3 h4
        · intro q b' h3 h4
          simp only [Sf'] at h3
          split at h3
          · exact hjb b' h3 (by rw [hblk] at h4; exact (Option.some.inj h4).symm)
          · exact hn q b' h3 h4
        · intro q b' h3 h4
          simp only [Sf'] at h4
          rw [List.length_set] at h3
          split at h4
          · omega
          · exact hz q b' h3 h4)
      refine ⟨w', _, ?_, hab⟩
      have hadd : (⟨b, i, none⟩ : Addr).add 0 = ⟨b, i, none⟩ := rfl
      simp only [Nat.mul_one, Nat.add_zero] at hv
      simp [execOp, Instr.storeAt, hv, hvy, Instr.sureAddr, storeVar, sizeOf, typeInfo, hinf, hsz, hcs1, hcells, storeCells, hadd, hst]
end
end Go.Vl

/- A part of a row whose slices are its own is lent to a function, which may write it. -/
namespace Go.Vl
set_option linter.unusedVariables false
set_option linter.unusedSimpArgs false
open Go.RowKit

section
variable {P : Program} {C : Ctx} {Q : Go.Exit → St → Prop} {s : St} {ops : Array Oper} {rest : List Oper} {t : Nat} {ty : TypeId} {pos : String} {af : Array Edge}

/-- A slice in such a row is read: the row remembers what its cell holds. -/
theorem vo_load_sub {x : Operand} {T id R i : Nat} {nl : Option Bool} {xs : List PV} {D : TypeDesc} (ht : Nat.blt t s.n = true) (hx : getO s.env x = .ptr id 1 i 0) (hrow : s.rows[id]? = some (.tree R 1 nl none xs))
    (hT : P.underlying T = some D) (hD : D.isRow = false) (hi : i < xs.length)
    (next : ∀ u : Value, VO P C ops rest Q ⟨s.n, (t, .val u) :: s.env, s.rows.set id (.tree R 1 nl (some (i, some u)) xs)⟩) : VO P C ops (⟨some t, .load T x, ty, pos, af, none⟩ :: rest) Q s := by
  intro a w ⟨m, hs⟩
  obtain ⟨b, hv, hb, hid⟩ := hs.ptr hx
  have hlid : liveAt s.rows id := ⟨_, hrow, rfl⟩
  have hR := hs.rows id _ hrow
  have key : ∃ u, w.cell? ⟨b, i, none⟩ = some u ∧ RowOK w (Gd C s.rows m w) m s.rows.length (m id) (.tree R 1 nl (some (i, some u)) xs) := by
    generalize m id = v at *
    cases hR with
    | tree mv t' e nl h xs vals Sf hown h1 h2 hw hr hd hn hz hS hkn =>
      rcases hown.2 with ⟨e0, hn0⟩ | ⟨g, cap, cur, e0, _, hheap, hle, hmx, hcs, htk⟩
      · omega
      · have hgb : b = g := by rw [e0] at hb; simpa [blk] using hb.symm
        subst hgb
        have hvl : vals.length = xs.length := by have := hown.1; omega
        have hu : vals[i]? = some vals[i] := List.getElem?_eq_getElem (by omega)
        refine ⟨vals[i], ?_, .tree _ R 1 nl _ xs vals Sf hown h1 h2 hw (fun k y j c u hy hc hu => .inl (hr k y j c u hy hc hu).tp) hd hn hz hS (fun q u h => by cases h; exact hu)⟩
        rw [cell_of_row w b _ cur R (0, 0) hheap, ← Array.getElem?_toList]
        rw [← hu, ← htk, List.getElem?_take, if_pos (by omega)]
  obtain ⟨u, hcell, hRu⟩ := key
  have hs2 : SimM C ⟨s.n, s.env, s.rows.set id (.tree R 1 nl (some (i, some u)) xs)⟩ m a w :=
    hs.storeRow (w' := w) (bo := none) hlid (fun _ e => by cases e) ⟨rfl, rfl, rfl, Nat.le_refl _, fun _ _ _ => rfl⟩ _ (fun hG => RowOK.mono hG (Nat.le_refl _) (fun _ _ => rfl) hRu (fun _ _ _ => rfl))
  refine wpList_plain rfl fun K hK => ?_
  unfold Oper.wp
  have hrun : (execOp a.eval ⟨some t, .load T x, ty, pos, af, none⟩).run P w = .ok (.value u) w := by
    have hagg : (isAgg T).run P w = .ok false w := by
      cases D <;> simp_all [isAgg, run_underlying hT]
    simp only [Nat.mul_one, Nat.add_zero] at hv
    simp [execOp, Instr.loadAt, hv, Instr.sureAddr, loadVar, hagg, load, Sem.run, hcell]
  rw [hrun, Oper.upon_value]
  exact hK _ _ (next u _ _ ⟨m, hs2.put (blt_lt ht) (.val u)⟩)

/-- The row forgets what a cell of it holds. -/
theorem vo_unknow {l : List Oper} (id : Nat) {R e : Nat} {nl : Option Bool} {q : Nat} {u : Value} {xs : List PV} (hrow : s.rows[id]? = some (.tree R e nl (some (q, some u)) xs))
    (next : VO P C ops l Q ⟨s.n, s.env, s.rows.set id (.tree R e nl none xs)⟩) : VO P C ops l Q s := by
  intro a w ⟨m, hs⟩
  refine next a w ⟨m, hs.storeRow (w' := w) (bo := none) ⟨_, hrow, rfl⟩ (fun _ e => by cases e) ⟨rfl, rfl, rfl, Nat.le_refl _, fun _ _ _ => rfl⟩ _ (fun hG => ?_)⟩
  refine RowOK.mono hG (Nat.le_refl _) (fun _ _ => rfl) ?_ (fun _ _ _ => rfl)
  have hR := hs.rows id _ hrow
  generalize m id = v at *
  cases hR with
  | tree mv t' e nl h xs vals Sf hown h1 h2 hw hr hd hn hz hS hkn =>
    exact .tree _ R e nl none xs vals Sf hown h1 h2 hw (fun k y j c u hy hc hu => .inl (hr k y j c u hy hc hu).tpK) hd hn hz hS (fun _ _ h => by cases h)

def SV.isScal : SV → Bool
  | .pv _ p => p.scal
  | _ => false

/-- A slice of such a row is lent: the function writes its numbers, and hands back numbers. -/
theorem vo_call_sub {f : FuncId} {fn : Func} {x0 : Operand} {xr : List Operand} {Ts : Array TypeId} {id R i : Nat} {nl nlc : Option Bool} {ec : Nat} {u : Value} {xs ys : List PV} {args : List SV} {Rp : List SV → List PV → Prop}
    (hf : P.funcs[f]? = some fn) (hnm : (fn.name == "runtime.NumGoroutine") = false) (hbd : fn.body.isNone = false) (ht : Nat.blt t s.n = true)
    (hx0 : getO s.env x0 = .val u) (hrow : s.rows[id]? = some (.tree R 1 nl (some (i, some u)) xs)) (hget : xs[i]? = some (.sl nlc ec ys)) (hpl : plainX ys)
    (hargs : (xr.map (getO s.env)) = args) (hsc : args.all SV.isScal = true)
    (hsat : ∀ Rc, SatAt P f (.ref 0 :: args) [.own Rc ec nlc false ys] (fun res rows' => ∃ ys', rows' = [.own Rc ec nlc false ys'] ∧ plainX ys' ∧ res.all SV.isScal = true ∧ Rp res ys'))
    (next : ∀ res ys', res.all SV.isScal = true → Rp res ys' → VO P C ops rest Q ⟨s.n, (t, packS res) :: s.env, s.rows.set id (.tree R 1 nl none (xs.set i (.sl nlc ec ys')))⟩) :
    VO P C ops (⟨some t, .call ⟨.value (.func f), (x0 :: xr).toArray, Ts⟩, ty, pos, af, none⟩ :: rest) Q s := by
  intro a w ⟨m, hs⟩
  have hlid : liveAt s.rows id := ⟨_, hrow, rfl⟩
  have hR := hs.rows id _ hrow
  have hu0 : a.eval x0 = u := by
    have := hs.get x0
    rw [hx0] at this
    generalize a.eval x0 = v at this
    cases this
    rfl
  have hlt : ∀ {b : Nat}, (m id).S b → b < w.heap.size := fun hb => hs.lt hlid hb
  have hdist := hs.dist
  have hnewb := hs.newb
  have hbor := hs.bor
  generalize hmv : m id = v at *
  cases hR with
  | tree mv t' e nl h xs vals Sf hown h1 h2 hw hr hd hn hz hS hkn =>
    have hui : vals[i]? = some u := hkn i u rfl
    have hTP : TP w (.sl nlc ec ys) u (Sf i) := by
      have := (hr i (.sl nlc ec ys) 0 (.sl nlc ec ys) u hget rfl (by simpa using hui)).tpK
      simpa using this
    have hix : i < xs.length := (List.getElem?_eq_some_iff.1 hget).1
    obtain ⟨Rc, hRc⟩ : ∃ Rc, RowOK w (fun _ _ => False) (fun _ => ⟨u, Sf i⟩) 1 ⟨u, Sf i⟩ (.own Rc ec nlc false ys) := by
      cases hTP with
      | scal _ _ _ hsc9 => simp [PV.scal] at hsc9
      | sl tc e nl xs v vals2 Sf2 S hown2 g1 g2 gw gr gd gn gz gS =>
        have hemp : ∀ q b, ¬ Sf2 q b := by
          intro q b hb
          rcases Nat.lt_or_ge q (ys.length * ec) with hq | hq
          · obtain ⟨y, c, uu, hy, hc, huu, e1⟩ := cellAt hown2 gw hq
            have h3 := gr _ y _ c uu hy hc huu
            have h4 := hpl y (List.mem_of_getElem? hy) c (List.mem_of_getElem? hc)
            rw [e1] at h3
            cases h3 with
            | scal _ _ _ _ _ hS3 => exact hS3 b hb
            | gone _ _ _ hS3 => exact hS3 b hb
            | sl t9 e9 nl9 xs9 v9 vals9 Sf9 S9 hown9 k1 k2 kw kr kd kn kz kS =>
              unfold plainB at h4
              split at h4
              · rename_i e8 h8
                cases h8
                have hv9 := k1 rfl
                rcases (kS b).1 hb with h5 | ⟨q9, h5⟩
                · rw [hv9] at h5; simp [blk] at h5
                · exact kz q9 b (by simp) h5
              · simp [PV.scal] at h4
          · exact gz q b hq hb
        have hSe : (⟨u, Sf i⟩ : MV) = .of u := by
          unfold MV.of
          congr 1
          funext b
          exact propext ((gS b).trans ⟨fun h => h.elim (fun h => h) (fun ⟨q, h⟩ => (hemp q b h).elim), .inl⟩)
        rw [hSe]
        refine ⟨tc, .own u tc ec nlc false ys vals2 hown2 g1 g2 gw (fun k y j c hy hc => ?_)⟩
        have hj : j < ec := by rw [← (gw k y hy).1]; exact (List.getElem?_eq_some_iff.1 hc).1
        have hk : k < ys.length := (List.getElem?_eq_some_iff.1 hy).1
        have hlt2 : k * ec + j < vals2.length := by
          rw [hown2.1]
          have := Nat.mul_le_mul_right ec (show k + 1 ≤ ys.length by omega)
          rw [Nat.add_mul] at this
          omega
        refine ⟨_, List.getElem?_eq_getElem hlt2, ?_⟩
        have h3 := gr k y j c _ hy hc (List.getElem?_eq_getElem hlt2)
        exact (h3.rp (G := fun b => Sf2 (k * ec + j) b) (fun _ h => h)).mono fun b hb => (hemp _ b hb).elim
    refine wpList_plain rfl fun K hK => ?_
    unfold Oper.wp
    rw [run_call (t := t) hf hnm hbd, Oper.upon_enter]
    let C' : Ctx := ⟨w, fun _ => False, 1, fun _ => ⟨u, Sf i⟩⟩
    have hvals : ((x0 :: xr).toArray.map a.eval) = (u :: xr.map a.eval).toArray := by simp [hu0]
    have hsz : ((x0 :: xr).toArray.map a.eval).size = (SV.ref 0 :: args).length := by rw [← hargs]; simp
    have hs0 : SimM C' ⟨((x0 :: xr).toArray.map a.eval).size, enumE 0 (.ref 0 :: args), [.own Rc ec nlc false ys]⟩ (fun _ => ⟨u, Sf i⟩) ⟨(x0 :: xr).toArray.map a.eval, []⟩ C'.w0 := {
      defs := rfl
      size := rfl
      os := rfl
      tape := rfl
      output := rfl
      hsz := Nat.le_refl _
      old := fun _ _ _ => rfl
      bor := fun _ _ => rfl
      nbl := Nat.le_refl _
      newb := fun k b hk hl _ => by
        obtain ⟨r, hr, _⟩ := hl
        have : k < 1 := (List.getElem?_eq_some_iff.1 hr).1
        change 1 ≤ k at hk
        omega
      dist := fun k1 k2 b hl1 hl2 _ _ => by
        obtain ⟨r, hr, _⟩ := hl1
        obtain ⟨r2, hr2, _⟩ := hl2
        have a1 : k1 < 1 := (List.getElem?_eq_some_iff.1 hr).1
        have a2 : k2 < 1 := (List.getElem?_eq_some_iff.1 hr2).1
        omega
      rows := fun k r hk => by
        have a1 : k < 1 := (List.getElem?_eq_some_iff.1 hk).1
        have a2 : k = 0 := by omega
        subst a2
        cases hk
        exact RowOK.mono (m := fun _ => ⟨u, Sf i⟩) (fun _ _ h => h.elim) (Nat.le_refl _) (fun _ _ => rfl) hRc (fun _ _ _ => rfl)
      env := fun k => by
        show RS w _ _ _ (look (enumE 0 (.ref 0 :: args)) k) _
        rw [look_enumE]
        simp only [Nat.zero_le, if_true, Nat.sub_zero]
        rw [hvals]
        cases k with
        | zero => exact .ref 0 (by simp)
        | succ k =>
          simp only [List.getElem?_cons_succ]
          rw [← hargs]
          simp only [List.getElem?_map]
          cases hk : xr[k]? with
          | none => exact .any _
          | some y =>
            simp only [Option.map_some, Option.getD_some]
            have e2 : ((u :: xr.map a.eval).toArray).getD (k+1) undef = a.eval y := by
              have hkl := (List.getElem?_eq_some_iff.1 hk)
              obtain ⟨hkl, e⟩ := hkl
              simp [Array.getD, hkl, e]
            rw [e2]
            have hv := hs.get y
            have hyy : (getO s.env y).isScal = true := by
              rw [List.all_eq_true] at hsc
              exact hsc _ (by rw [← hargs]; exact List.mem_map.2 ⟨y, List.mem_of_getElem? hk, rfl⟩)
            generalize getO s.env y = gy at *
            generalize a.eval y = vy at *
            cases hv with
            | pv fr p v hp => exact .pv _ _ _ (hp.scal_any hyy)
            | _ => simp [SV.isScal] at hyy }
    refine (hsat Rc C' (fun _ => ⟨u, Sf i⟩) _ rfl (fun b hb => hb.elim) hsz hs0).mono ?_
    rintro ex w' ⟨us, res, rows', m2, rfl, hus, hs', ys', rfl, hpl', hrs, hRp⟩
    have hold : ∀ k, k < w.heap.size → ¬ Sf i k → w'.heap[k]? = w.heap[k]? := fun k hk hn => hs'.old k hk (fun q _ => hn)
    have hszw : w.heap.size ≤ w'.heap.size := hs'.hsz
    have hm20 : m2 0 = ⟨u, Sf i⟩ := hs'.bor 0 (Nat.lt_succ_self 0)
    have hRc' : RowOK w' (Gd C' [.own Rc ec nlc false ys'] m2 w') m2 1 ⟨u, Sf i⟩ (.own Rc ec nlc false ys') := by
      have := hs'.rows 0 _ rfl
      rw [hm20] at this
      exact this
    have hTP' := (own_tp hRc' hpl').1
    have hSid : ∀ b, Sf i b → v.S b := fun b hb => (hS b).2 (.inr ⟨i, hb⟩)
    have hG : ∀ fl b, Gd C s.rows m w fl b → Gd C (s.rows.set id (.tree R 1 nl none (xs.set i (.sl nlc ec ys')))) m w' fl b ∧ w'.heap[b]? = w.heap[b]? :=
      Gd.step (fun b => Sf i b) hszw hold (fun b hb => ⟨id, hlid, by rw [hmv]; exact hSid b hb⟩) (fun b _ ⟨j, hl, hbk⟩ => ⟨j, liveAt_set hl hlid, hbk⟩)
    have hidl : id < s.rows.length := (List.getElem?_eq_some_iff.1 hrow).1
    have hvl : vals.length = xs.length := by have := hown.1; omega
    have hnew : RowOK w' (Gd C (s.rows.set id (.tree R 1 nl none (xs.set i (.sl nlc ec ys')))) m w') m s.rows.length v (.tree R 1 nl none (xs.set i (.sl nlc ec ys'))) := by
      have hown' : w'.ownsRow 0 R 1 v.v xs.length vals := ownsRow_blk hown fun b hb => hold b (hlt ((hS b).2 (.inl hb))) (fun h => hn i b h hb)
      refine .tree v R 1 nl none _ vals Sf (by rw [List.length_set]; exact hown') h1 h2 ?_ ?_ hd hn (by rw [List.length_set]; exact hz) hS (fun _ _ h => by cases h)
      · intro k y hy
        rw [List.getElem?_set] at hy
        split at hy
        · cases hy; exact fits_of rfl
        · exact hw k y hy
      · intro k y j c uu hy hc huu
        rw [List.getElem?_set] at hy
        split at hy
        · rename_i eki
          subst eki
          · cases hy
            have hj : j = 0 := by
              cases j with
              | zero => rfl
              | succ j => simp [PV.cells] at hc
            subst hj
            have hc1 : c = .sl nlc ec ys' := by simpa [PV.cells] using hc.symm
            subst hc1
            simp only [Nat.mul_one, Nat.add_zero] at huu ⊢
            rw [hui] at huu
            cases huu
            exact .inl hTP'
        · rename_i eki
          have h3 := (hr k y j c uu hy hc huu).tpK
          refine .inl (h3.mono fun b hb => hold b (hlt ((hS b).2 (.inr ⟨_, hb⟩))) (fun h => eki ?_))
          have hj : j = 0 := by
            have := (List.getElem?_eq_some_iff.1 hc).1
            rw [(hw k y hy).1] at this; omega
          subst hj
          simp only [Nat.mul_one, Nat.add_zero] at hb
          exact (hd k i b hb h).symm
    have hs2 : SimM C ⟨s.n, s.env, s.rows.set id (.tree R 1 nl none (xs.set i (.sl nlc ec ys')))⟩ m a w' := {
      defs := hs.defs
      size := hs.size
      os := hs'.os.trans hs.os
      tape := hs'.tape.trans hs.tape
      output := hs'.output.trans hs.output
      hsz := Nat.le_trans hs.hsz hszw
      old := fun k hk hn2 => by
        refine (hold k (by have := hs.hsz; omega) (fun h => ?_)).trans (hs.old k hk hn2)
        by_cases hb : id < C.nb
        · exact hn2 id hb (by rw [← hbor id hb, hmv]; exact hSid k h)
        · have := hnewb id k (by omega) hlid (by rw [hmv]; exact hSid k h); omega
      bor := hbor
      nbl := by have := hs.nbl; simp; omega
      newb := fun j b hj hl hbk => hnewb j b hj (liveAt_set hl hlid) hbk
      dist := fun j1 j2 b l1 l2 b1 b2 => hdist j1 j2 b (liveAt_set l1 hlid) (liveAt_set l2 hlid) b1 b2
      rows := fun j q hq => by
        change (s.rows.set id (.tree R 1 nl none (xs.set i (.sl nlc ec ys'))))[j]? = some q at hq
        show RowOK w' _ m (s.rows.set id (.tree R 1 nl none (xs.set i (.sl nlc ec ys')))).length _ q
        rw [List.length_set]
        rw [List.getElem?_set] at hq
        split at hq
        · rename_i e
          subst e
          simp [hidl] at hq
          subst hq
          rw [hmv]
          exact hnew
        · rename_i e
          exact RowOK.mono (N' := s.rows.length) (m' := m) hG (Nat.le_refl _) (fun _ _ => rfl) (hs.rows j q hq) (fun hdd b hbk => hold b (hs.lt ⟨q, hq, hdd⟩ hbk) (fun h => e (hdist id j b hlid ⟨q, hq, hdd⟩ (by rw [hmv]; exact hSid b h) hbk)))
      env := fun k => by
        show RS w' _ m (s.rows.set id (.tree R 1 nl none (xs.set i (.sl nlc ec ys')))).length _ _
        rw [List.length_set]
        exact (hs.env k).mono hG (Nat.le_refl _) (fun _ _ => rfl) }
    have hres : ∀ (j : Nat) (r : SV) (G' : Bool → Nat → Prop) (N' : Nat), res[j]? = some r → RS w' G' m N' r (us.getD j undef) := by
      intro j r G' N' hj
      have hv := hs'.env j
      change RS w' _ _ _ (look (enumE 0 res) j) (us.getD j undef) at hv
      rw [look_enumE] at hv
      simp only [Nat.zero_le, if_true, Nat.sub_zero, hj, Option.getD_some] at hv
      have hrp : r.isScal = true := by rw [List.all_eq_true] at hrs; exact hrs r (List.mem_of_getElem? hj)
      generalize us.getD j undef = vv at *
      cases hv with
      | pv fr p v hp => exact .pv _ _ _ (hp.scal_any hrp)
      | _ => simp [SV.isScal] at hrp
    refine hK _ _ (next res ys' hrs hRp _ _ ⟨m, hs2.put (blt_lt ht) ?_⟩)
    match res, hus, hres with
    | [], hus, _ =>
      have : us = #[] := Array.eq_empty_of_size_eq_zero (by simpa using hus)
      subst this
      exact .tup _ _ rfl (fun j c v hc => by simp at hc)
    | [r], hus, hres =>
      have h1 : us.size = 1 := by simpa using hus
      have := hres 0 r (Gd C (s.rows.set id (.tree R 1 nl none (xs.set i (.sl nlc ec ys')))) m w') (s.rows.set id (.tree R 1 nl none (xs.set i (.sl nlc ec ys')))).length rfl
      simp only [packS, pack, h1, dif_pos]
      simpa [Array.getD, h1] using this
    | r1 :: r2 :: rs, hus, hres =>
      have h1 : us.size ≠ 1 := by rw [hus]; simp
      simp only [packS, pack, h1, dif_neg, not_false_iff]
      refine .tup _ _ hus (fun j c v hc hv => ?_)
      have := hres j c (Gd C (s.rows.set id (.tree R 1 nl none (xs.set i (.sl nlc ec ys')))) m w') (s.rows.set id (.tree R 1 nl none (xs.set i (.sl nlc ec ys')))).length hc
      have e : us.getD j undef = v := by
        rw [Array.getElem?_eq_some_iff] at hv
        obtain ⟨hlt, e⟩ := hv
        simp [Array.getD, hlt, e]
      rw [e] at this
      exact this
end
end Go.Vl
namespace Go.Vl
theorem TP.weak {w : World} {nl : Option Bool} {e : Nat} {xs : List PV} {v : Value} {S : Nat → Prop} (h : TP w (.sl nl e xs) v S) : TP w (.sl none e xs) v S := by
  cases h with
  | scal _ _ _ hsc => simp [PV.scal] at hsc
  | sl t e nl xs v vals Sf S hown h1 h2 hw hr hd hn hz hS => exact .sl t e none xs v vals Sf S hown (fun h => by cases h) (fun h => by cases h) hw hr hd hn hz hS

/-- Numbers that go up one by one. -/
def markL (k : Int) (n : Nat) : List Int := (List.range n).map (fun (j : Nat) => k + (j : Int))
theorem markL_len (k : Int) (n : Nat) : (markL k n).length = n := by simp [markL]
theorem markL_get (k : Int) (n i : Nat) (h : i < n) : (markL k n).getD i 0 = k + i := by simp [markL, List.getD, h]
theorem mark_set (k : Int) (a : List Int) (i : Nat) (h : i < a.length) : (markL k i ++ a.drop i).set i (k + i) = markL k (i+1) ++ a.drop (i+1) := by
  rw [List.drop_eq_getElem_cons h, List.set_append_right _ _ (by rw [markL_len]; omega), markL_len, Nat.sub_self, List.set_cons_zero]
  unfold markL
  rw [List.range_succ, List.map_append]
  simp
theorem get_intss {L : List (List Int)} {k : Nat} (h : k < L.length) : (L.map ints)[k]? = some (.sl none 1 ((L.getD k []).map intP)) := by
  simp [List.getD, List.getElem?_eq_getElem h]
theorem row1_eqT {el : TypeId} {e : Nat} {nl : Option Bool} {h : Option (Nat × Option Value)} {xs ys : List PV} (hh : xs = ys) : [Row.tree el e nl h xs] = [Row.tree el e nl h ys] := by rw [hh]
end Go.Vl

/- 'copy' of a whole slice; a slice held against nil; ghost steps on slots. -/
namespace Go.Vl
set_option linter.unusedVariables false
set_option linter.unusedSimpArgs false
open Go.RowKit

section
variable {P : Program} {C : Ctx} {Q : Go.Exit → St → Prop} {s : St} {ops : Array Oper} {rest : List Oper} {t : Nat} {ty : TypeId} {pos : String} {af : Array Edge}

/-- A ghost step: a slot forgets whether its slice is nil. -/
theorem vc_weaken {code : Code} (u : Nat) {e : Nat} {nl : Option Bool} {f : Bool} {xs : List PV} (hu : look s.env u = .pv f (.sl nl e xs))
    (next : VC P C code Q ⟨s.n, (u, .pv f (.sl none e xs)) :: s.env, s.rows⟩) : VC P C code Q s := by
  intro a w ⟨m, hs⟩
  refine next a w ⟨m, { hs with env := fun q => ?_ }⟩
  show RS _ _ _ _ (look ((u, .pv f (.sl none e xs)) :: s.env) q) _
  rw [look_cons]
  split
  · rename_i e
    subst e
    have hv := hs.env q
    rw [hu] at hv
    exact .pv _ _ _ hv.pv_inv.weaken
  · exact hs.env q

/-- A ghost step: a slot forgets that its value is new. -/
theorem vo_flag {l : List Oper} (u : Nat) {f : Bool} {p : PV} (hu : look s.env u = .pv f p)
    (next : VO P C ops l Q ⟨s.n, (u, .pv false p) :: s.env, s.rows⟩) : VO P C ops l Q s := by
  intro a w ⟨m, hs⟩
  refine next a w ⟨m, { hs with env := fun q => ?_ }⟩
  show RS _ _ _ _ (look ((u, .pv false p) :: s.env) q) _
  rw [look_cons]
  split
  · rename_i e
    subst e
    have hv := hs.env q
    rw [hu] at hv
    exact .pv _ _ _ (hv.pv_inv.mono fun b hb => ⟨hb.weak, rfl⟩)
  · exact hs.env q

/-- A slice held against the literal nil. -/
theorem vo_eqnil {x : Operand} {T T2 el : TypeId} {f : Bool} {nl : Option Bool} {e : Nat} {xs : List PV} (ht : Nat.blt t s.n = true) (hx : getO s.env x = .pv f (.sl nl e xs)) (hT : P.underlying T = some (.slice el))
    (next : ∀ b : Bool, (b = true → xs = []) → (nl = some true → b = true) → (nl = some false → b = false) → VO P C ops rest Q (s.put t (.pv true (.bool b)))) :
    VO P C ops (⟨some t, .binOp .eql T x (.const (.slice none 0 0)) T2, ty, pos, af, none⟩ :: rest) Q s := by
  intro a w ⟨m, hs⟩
  have hv := hs.get x
  rw [hx] at hv
  have hv := hv.pv_inv
  have key : ∃ b : Bool, (b = true → xs = []) ∧ (nl = some true → b = true) ∧ (nl = some false → b = false) ∧ (execOp a.eval ⟨some t, .binOp .eql T x (.const (.slice none 0 0)) T2, ty, pos, af, none⟩).run P w = .ok (.value (.bool b)) w := by
    have hrun : ∀ (o : Option Addr) (l c : Nat), a.eval x = .slice o l c → (execOp a.eval ⟨some t, .binOp .eql T x (.const (.slice none 0 0)) T2, ty, pos, af, none⟩).run P w = .ok (.value (.bool o.isNone)) w := by
      intro o l c e
      have hg : (eqGuard .eql T x (.const (.slice none 0 0)) (.slice o l c) (.slice none 0 0)).run P w = .ok () w := rfl
      have heq : (Op.equal T (.slice o l c) (.slice none 0 0)).run P w = .ok o.isNone w := by
        show (Op.equalIn (9999 + 1) T (.slice o l c) (.slice none 0 0)).run P w = _
        unfold Op.equalIn
        cases o <;> simp [run_underlying hT]
      have hb : (binOp .eql T (.slice o l c) (.slice none 0 0)).run P w = .ok (.bool o.isNone) w := by
        show (do pure (Value.bool (← Op.equal T (.slice o l c) (.slice none 0 0))) : Sem Value).run P w = _
        simp [heq]
      have e3 : a.eval (.const (.slice none 0 0)) = .slice none 0 0 := rfl
      simp only [execOp, e, e3]
      simp [hg, hb]
    generalize hav : a.eval x = v at *
    cases hv with
    | nilsl nl e hn => exact ⟨true, fun _ => rfl, fun _ => rfl, fun h => (hn h).elim, hrun none 0 0 rfl⟩
    | sl nl e xs ad len cap fv h hsp hl hcap hg hw hc hr => exact ⟨false, (fun h => by cases h), fun e => (h e).elim, fun _ => rfl, hrun (some ad) len cap rfl⟩
  obtain ⟨b, h1, h2, h3, hrun⟩ := key
  refine wpList_plain rfl fun K hK => ?_
  unfold Oper.wp
  rw [hrun, Oper.upon_value]
  exact hK _ _ (next b h1 h2 h3 _ _ ⟨m, hs.put (blt_lt ht) (.pv _ _ _ (.bool b))⟩)

/-- 'copy' of as many elements as there are. -/
theorem vo_copy {x y : Operand} {id R : Nat} {Ts T2 el : TypeId} {nl : Option Bool} {fr f : Bool} {xs ys : List PV} {inf : TypeInfo} (ht : Nat.blt t s.n = true) (hx : getO s.env x = .ref id) (hrow : s.rows[id]? = some (.own R 1 nl fr xs))
    (hy : srcOf s.rows (getO s.env y) = some (f, 1, ys)) (hT : P.underlying Ts = some (.slice el)) (hinf : P.info? el = some inf) (hsz : inf.size = 1) (hl : ys.length = xs.length)
    (next : VO P C ops rest Q ⟨s.n, (t, .pv true (.int .i64 xs.length)) :: s.env, s.rows.set id (.own R 1 nl (fr && f) ys)⟩) :
    VO P C ops (⟨some t, .call ⟨.builtin .copy, #[x, y], #[Ts, T2]⟩, ty, pos, af, none⟩ :: rest) Q s := by
  refine vo_value (s1 := { s with rows := s.rows.set id (.own R 1 nl (fr && f) ys) }) (sv := .pv true (.int .i64 xs.length)) ht (fun m a w hs => ?_) next
  obtain ⟨hv, hid⟩ := hs.row hx
  have hlive : liveAt s.rows id := ⟨_, hrow, rfl⟩
  have hR := hs.rows id _ hrow
  have hsrc := hs.src hy (by omega)
  have hop : ∀ (v : Value) (w' : World), (Builtin.copy_ #[Ts, T2] ty #[a.eval x, a.eval y]).run P w = .ok v w' → (execOp a.eval ⟨some t, .call ⟨.builtin .copy, #[x, y], #[Ts, T2]⟩, ty, pos, af, none⟩).run P w = .ok (.value v) w' := by
    intro v w' h
    simp [execOp, resolve, invoke, builtin, h]
  have hcomb : ∀ b, (Gd C s.rows m w f b) → Gd C s.rows m w (fr && f) b := by
    intro b hb
    cases fr with
    | false => exact hb.weak
    | true => exact hb
  generalize hmv : m id = v at *
  cases hR with
  | own v t' e nl fr xs vs hown h1 h2 hw hr =>
    have hint : RS w (Gd C (s.rows.set id (.own R 1 nl (fr && f) ys)) m w) m (s.rows.set id (.own R 1 nl (fr && f) ys)).length (.pv true (.int .i64 xs.length)) (.int .i64 xs.length) := .pv _ _ _ (.int _ _)
    rcases hsrc with ⟨hvy, rfl⟩ | ⟨ad, len, cap, news, hvy, rfl, hnl, hnews, hnr, hn1, hfy⟩
    · have hx0 : xs = [] := List.eq_nil_of_length_eq_zero (by simpa using hl.symm)
      subst hx0
      have hs2 : SimM C { s with rows := s.rows.set id (.own R 1 nl (fr && f) []) } m a w := hs.storeRow (w' := w) (bo := none) hlive (fun _ e => by cases e) ⟨rfl, rfl, rfl, Nat.le_refl _, fun _ _ _ => rfl⟩ _ (fun hG => by
        rw [hmv]; exact .own v R 1 nl _ [] vs hown h1 h2 (fun i x hx => by simp at hx) (fun i x j c hx => by simp at hx))
      refine ⟨.int .i64 0, w, m, hop _ _ ?_, hs2, .pv _ _ _ (.int _ _)⟩
      rw [hv, hvy]
      rcases hown.2 with ⟨rfl, _⟩ | ⟨g, cp, cur, rfl, _⟩
      · simp [MV.of, Builtin.copy_, run_underlying hT, Builtin.lenOf, Builtin.firstCells, sizeOf, typeInfo, hinf, goInt]
      · exact run_copy_nil (P := P) w Ts T2 ty el ⟨g, 0, none⟩ 0 cp hT (by simp [hinf])
    · rcases hown.2 with ⟨rfl, hn0⟩ | ⟨g, cp, cur, rfl, _, hheap, hle, hmx, hcs, htk⟩
      · have hy0 : ys = [] := List.eq_nil_of_length_eq_zero (by omega)
        subst hy0
        have hx0 : xs = [] := List.eq_nil_of_length_eq_zero hn0
        subst hx0
        have hs2 : SimM C { s with rows := s.rows.set id (.own R 1 nl (fr && f) []) } m a w := hs.storeRow (w' := w) (bo := none) hlive (fun _ e => by cases e) ⟨rfl, rfl, rfl, Nat.le_refl _, fun _ _ _ => rfl⟩ _ (fun hG => by
          rw [hmv]; exact .own _ R 1 nl _ [] vs hown h1 h2 (fun i x hx => by simp at hx) (fun i x j c hx => by simp at hx))
        refine ⟨.int .i64 0, w, m, hop _ _ ?_, hs2, .pv _ _ _ (.int _ _)⟩
        rw [hv, hvy]
        simp [MV.of, Builtin.copy_, run_underlying hT, Builtin.lenOf, Builtin.firstCells, sizeOf, typeInfo, hinf, goInt, loadCells, loadCellsFrom]
      · have hnl' : news.length = ys.length := by omega
        have hrun := run_copy_row (P := P) w Ts T2 ty el g 0 xs.length cp ad ys.length cap cur R news hT (by simp [hinf, hsz]) hheap (by rw [hnl', hl]; simp) hnews (by rw [hcs]; omega) hn1
        let cur' : Array Value := (cur.toList.take 0 ++ news ++ cur.toList.drop (0 + news.length)).toArray
        have hg : w.grownBy (w.setRow g cur') (some g) := grown_setRow w g _
        refine ⟨goInt news.length, w.setRow g cur', m, hop _ _ (by rw [hv, hvy]; exact hrun), ?_, ?_⟩
        · refine hs.storeRow hlive (fun b' e => by cases e; rw [hmv]; rfl) hg _ (fun hG => ?_)
          rw [hmv]
          refine .own _ R 1 nl _ ys news ⟨by omega, .inr ⟨g, cp, cur', by rw [hl], Nat.zero_le _, setRow_heap w g cur _ R _ hheap, by omega, hmx, ?_, ?_⟩⟩ (fun h => by have := h1 h; simp at this) (fun _ h => by cases h) hfy (fun i x j c hx hc => ?_)
          · simp [cur']; omega
          · simp [cur', hnl']
          · obtain ⟨u, hu, hp⟩ := hnr i x j c hx hc
            exact ⟨u, hu, hp.mono fun b hb => hG _ b (hcomb b hb)⟩
        · rw [hnl', hl]
          exact .pv _ _ _ (.int _ _)
end
end Go.Vl

/- Classes above a class, and below it. -/
namespace Go.Vl
set_option linter.unusedVariables false
set_option linter.unusedSimpArgs false

/-- Steps lead from a class to another one. -/
inductive Abv (b : List (List Int)) : Nat → Nat → Prop
  | refl (c : Nat) : Abv b c c
  | step {c d x : Nat} (h : (d : Int) ∈ b.getD c []) (h2 : Abv b d x) : Abv b c x

theorem Abv.trans {b : List (List Int)} {c d x : Nat} (h : Abv b c d) (h2 : Abv b d x) : Abv b c x := by
  induction h with
  | refl c => exact h2
  | step h _ ih => exact .step h (ih h2)

def mkB (l : List Int) (m : List Bool) : List Bool := l.foldl (fun m x => m.set x.toNat true) m
def stB (b : List (List Int)) (i : Nat) (m : List Bool) : List Bool := if m.getD i false = true then mkB (b.getD i []) m else m
def goB (b : List (List Int)) : Nat → List Bool → List Bool
  | 0, m => m
  | i+1, m => goB b i (stB b (i+1) m)
/-- The same with the root, whose step is none. -/
def goC (b : List (List Int)) : Nat → List Bool → List Bool
  | 0, m => m
  | i+1, m => goC b i (stB b i m)
def abvB (b : List (List Int)) (c : Nat) : List Bool := goB b c ((List.replicate b.length false).set c true)
def idxT (m : List Bool) (k : Nat) : List Int := ((List.range k).filter (fun i => m.getD i false)).map (fun (i : Nat) => (i : Int))
def idxB (m : List Bool) : List Int := idxT m m.length
def abvL (b : List (List Int)) (c : Nat) : List Int := idxB (abvB b c)

/-- The marks of all classes below a class. -/
def belB (b : List (List Int)) (c : Nat) : List Bool := (List.range b.length).map (fun i => decide ((c : Int) ∈ abvL b i))
def belL (b : List (List Int)) (c : Nat) : List Int := idxB (belB b c)
end Go.Vl

/- Lists that keep others; merges of lists. -/
namespace Go.Vl
set_option linter.unusedVariables false
set_option linter.unusedSimpArgs false

/-- How far the second list is met along the first one, from a place on. -/
def kpN (short : List Int) : List Int → Nat → Nat
  | [], a => a
  | x :: l, a => kpN short l (if a < short.length ∧ short.getD a 0 = x then a + 1 else a)

/-- What KeepsOrder says. -/
def KO (long short : List Int) : Prop := OKL' long ∧ OKL' short ∧ short.Sublist long
  where OKL' (l : List Int) : Prop := (l.length : Int) ≤ 12 ∧ l.Nodup
end Go.Vl

/- Merges of lists. -/
namespace Go.Vl
set_option linter.unusedVariables false
set_option linter.unusedSimpArgs false

def fM (n : Int) : List Int → Int → Int
  | [], _ => -1
  | x :: xs, i => if x = n then i else fM n xs (i+1)

/-- Behind the first place. -/
def bhd (x : Int) (l : List Int) : Prop := 0 < fM x l 0
instance {x : Int} {l : List Int} : Decidable (bhd x l) := by unfold bhd; infer_instance
def anyB (ls : List (List Int)) (x : Int) : Prop := ∃ l ∈ ls, bhd x l
instance {ls : List (List Int)} {x : Int} : Decidable (anyB ls x) := by unfold anyB; infer_instance

def freeH (all : List (List Int)) (l : List Int) : Option Int := if 0 < l.length ∧ ¬ anyB all (l.getD 0 0) then some (l.getD 0 0) else none
def fhF (all : List (List Int)) : List (List Int) → Option Int
  | [] => none
  | l :: r => match freeH all l with
    | some x => some x
    | none => fhF all r
def fhM (ls : List (List Int)) : Option Int := fhF ls ls
theorem fhF_drop (all ls : List (List Int)) (k : Nat) (h : k < ls.length) : fhF all (ls.drop k) = match freeH all (ls.getD k []) with | some x => some x | none => fhF all (ls.drop (k+1)) := by
  rw [List.drop_eq_getElem_cons h]
  have : ls.getD k [] = ls[k] := by simp [List.getD, List.getElem?_eq_getElem h]
  rw [this]; rfl
theorem freeH_t {all : List (List Int)} {l : List Int} (h1 : 0 < l.length) (h2 : ¬ anyB all (l.getD 0 0)) : freeH all l = some (l.getD 0 0) := if_pos ⟨h1, h2⟩
theorem freeH_f {all : List (List Int)} {l : List Int} (h : ¬ (0 < l.length ∧ ¬ anyB all (l.getD 0 0))) : freeH all l = none := if_neg h

/-- A list without a number at its head. -/
def tk (x : Int) (l : List Int) : List Int := if 0 < l.length ∧ l.getD 0 0 = x then l.drop 1 else l
theorem tk_t {x : Int} {l : List Int} (h : 0 < l.length) (h2 : l.getD 0 0 = x) : tk x l = l.drop 1 := if_pos ⟨h, h2⟩
theorem tk_f {x : Int} {l : List Int} (h : ¬ (0 < l.length ∧ l.getD 0 0 = x)) : tk x l = l := if_neg h
def tot (ls : List (List Int)) : Nat := (ls.map List.length).sum
theorem tk_len (x : Int) (l : List Int) : (tk x l).length ≤ l.length := by unfold tk; split <;> simp
theorem tot_tk (x : Int) : ∀ ls : List (List Int), tot (ls.map (tk x)) ≤ tot ls
  | [] => Nat.le_refl _
  | l :: r => by
    have h1 := tot_tk x r
    have h2 := tk_len x l
    simp only [tot, List.map_cons, List.sum_cons] at h1 ⊢
    omega
theorem tot_lt {ls : List (List Int)} {l : List Int} (h : l ∈ ls) (x : Int) (h1 : 0 < l.length) (h2 : l.getD 0 0 = x) : tot (ls.map (tk x)) < tot ls := by
  induction ls with
  | nil => cases h
  | cons a r ih =>
    have h3 := tk_len x a
    have h4 := tot_tk x r
    simp only [tot, List.map_cons, List.sum_cons] at ih h4 ⊢
    rcases List.mem_cons.1 h with rfl | h
    · rw [tk_t h1 h2, List.length_drop]; omega
    · have := ih h; omega
theorem fhF_some {all : List (List Int)} : ∀ {ls : List (List Int)} {x : Int}, fhF all ls = some x → ∃ l ∈ ls, 0 < l.length ∧ l.getD 0 0 = x ∧ ¬ anyB all x
  | l :: r, x, h => by
    unfold fhF at h
    split at h
    · rename_i y hy
      cases h
      unfold freeH at hy
      split at hy
      · rename_i h1
        cases hy
        exact ⟨l, List.mem_cons_self, h1.1, rfl, h1.2⟩
      · cases hy
    · obtain ⟨l', h1, h2⟩ := fhF_some h
      exact ⟨l', List.mem_cons_of_mem _ h1, h2⟩
theorem fhM_tot {ls : List (List Int)} {x : Int} (h : fhM ls = some x) : tot (ls.map (tk x)) < tot ls := by
  obtain ⟨l, h1, h2, h3, _⟩ := fhF_some h
  exact tot_lt h1 x h2 h3

def mergeF : Nat → List (List Int) → List Int × List (List Int)
  | 0, ls => ([], ls)
  | n+1, ls => match fhM ls with
    | none => ([], ls)
    | some x => (x :: (mergeF n (ls.map (tk x))).1, (mergeF n (ls.map (tk x))).2)
def mergeM (ls : List (List Int)) : List Int × List (List Int) := mergeF (tot ls) ls
theorem mergeF_none {n : Nat} {ls : List (List Int)} (h : fhM ls = none) : mergeF n ls = ([], ls) := by
  cases n with
  | zero => rfl
  | succ n => simp [mergeF, h]
theorem mergeF_some {n : Nat} {ls : List (List Int)} {x : Int} (h : fhM ls = some x) (hn : tot ls ≤ n) : mergeF n ls = (x :: (mergeF (n-1) (ls.map (tk x))).1, (mergeF (n-1) (ls.map (tk x))).2) := by
  cases n with
  | zero => have := fhM_tot h; omega
  | succ n => simp [mergeF, h]
theorem mergeF_tot : ∀ (n : Nat) (ls : List (List Int)), (mergeF n ls).1.length + tot (mergeF n ls).2 ≤ tot ls
  | 0, ls => by simp [mergeF]
  | n+1, ls => by
    unfold mergeF
    split
    · simp
    · rename_i x hx
      have h1 := mergeF_tot n (ls.map (tk x))
      have h2 := fhM_tot hx
      simp only [List.length_cons]
      omega
theorem mergeF_len : ∀ (n : Nat) (ls : List (List Int)), (mergeF n ls).2.length = ls.length
  | 0, ls => rfl
  | n+1, ls => by
    unfold mergeF
    split
    · rfl
    · rename_i x hx
      simpa using mergeF_len n (ls.map (tk x))

/-- Each once, where it stands first. -/
def onceF : List Int → List Int → List Int
  | acc, [] => acc
  | acc, x :: l => onceF (if x ∈ acc then acc else acc ++ [x]) l
theorem onceF_drop (acc l : List Int) (k : Nat) (h : k < l.length) : onceF acc (l.drop k) = onceF (if l.getD k 0 ∈ acc then acc else acc ++ [l.getD k 0]) (l.drop (k+1)) := by
  rw [List.drop_eq_getElem_cons h]
  have : l.getD k 0 = l[k] := by simp [List.getD, List.getElem?_eq_getElem h]
  rw [this]; rfl
theorem onceF_ge : ∀ (l acc : List Int), acc.length ≤ (onceF acc l).length
  | [], acc => Nat.le_refl _
  | x :: l, acc => by
    have := onceF_ge l (if x ∈ acc then acc else acc ++ [x])
    simp only [onceF]
    split at this <;> simp_all <;> omega
/-- The first numbers of lists. -/
def hd1 (l : List Int) : List Int := l.take 1
def hds (ls : List (List Int)) : List Int := ls.flatMap hd1
theorem hds_len : ∀ ls : List (List Int), (hds ls).length ≤ ls.length
  | [] => Nat.le_refl _
  | l :: r => by
    have := hds_len r
    simp only [hds, List.flatMap_cons, List.length_append, List.length_cons, hd1, List.length_take] at this ⊢
    omega
theorem hds_snoc {ls : List (List Int)} {k : Nat} (h : k < ls.length) : hds (ls.take (k+1)) = hds (ls.take k) ++ hd1 (ls.getD k []) := by
  have : ls.getD k [] = ls[k] := by simp [List.getD, List.getElem?_eq_getElem h]
  unfold hds
  rw [List.take_succ_eq_append_getElem h, List.flatMap_append, List.flatMap_cons, List.flatMap_nil, List.append_nil, this]
theorem hd1_t {l : List Int} (h : 0 < l.length) : hd1 l = [l.getD 0 0] := by
  cases l with
  | nil => simp at h
  | cons x l => rfl
theorem hd1_f {l : List Int} (h : ¬ 0 < l.length) : hd1 l = [] := by
  have : l = [] := List.eq_nil_of_length_eq_zero (by omega)
  subst this; rfl
theorem hds_nil {ls : List (List Int)} : hds ls = [] ↔ ∀ l ∈ ls, l = [] := by
  unfold hds
  rw [List.flatMap_eq_nil_iff]
  constructor
  · intro h l hl
    have := h l hl
    cases l with
    | nil => rfl
    | cons x l => simp [hd1] at this
  · intro h l hl
    rw [h l hl]; rfl
theorem once_nil {l : List Int} : onceF [] l = [] ↔ l = [] := by
  cases l with
  | nil => simp [onceF]
  | cons x l =>
    simp only [onceF, List.not_mem_nil, if_false, List.nil_append, reduceCtorEq, iff_false]
    intro h
    have := onceF_ge l [x]
    rw [h] at this
    simp at this
theorem map_set_tk {ls : List (List Int)} {k : Nat} (h : k < ls.length) (x : Int) : (((ls.take k).map (tk x)) ++ ls.drop k).set k (tk x (ls.getD k [])) = ((ls.take (k+1)).map (tk x)) ++ ls.drop (k+1) := by
  have e : ls.getD k [] = ls[k] := by simp [List.getD, List.getElem?_eq_getElem h]
  rw [e, List.take_succ_eq_append_getElem h, List.drop_eq_getElem_cons h, List.set_append_right _ _ (by simp; omega)]
  have e2 : k - (List.map (tk x) (List.take k ls)).length = 0 := by rw [List.length_map, List.length_take]; omega
  rw [e2, List.map_append, List.append_assoc]
  rfl
theorem map_keep_tk {ls : List (List Int)} {k : Nat} (h : k < ls.length) (x : Int) (h2 : tk x (ls.getD k []) = ls.getD k []) : ((ls.take k).map (tk x)) ++ ls.drop k = ((ls.take (k+1)).map (tk x)) ++ ls.drop (k+1) := by
  have e : ls.getD k [] = ls[k] := by simp [List.getD, List.getElem?_eq_getElem h]
  rw [e] at h2
  rw [List.take_succ_eq_append_getElem h, List.drop_eq_getElem_cons h, List.map_append, List.map_cons, h2]
  simp
theorem map_at_tk {ls : List (List Int)} {k : Nat} (h : k < ls.length) (x : Int) : (((ls.take k).map (tk x)) ++ ls.drop k).getD k [] = ls.getD k [] := by
  simp only [List.getD, List.getElem?_append, List.length_map, List.length_take]
  rw [if_neg (by omega), List.getElem?_drop]
  congr 2
  omega
theorem map_snoc_tk {ls : List (List Int)} {k : Nat} (h : k < ls.length) (x : Int) : ((ls.take k).map (tk x)) ++ [tk x (ls.getD k [])] = (ls.take (k+1)).map (tk x) := by
  have e : ls.getD k [] = ls[k] := by simp [List.getD, List.getElem?_eq_getElem h]
  rw [e, List.take_succ_eq_append_getElem h, List.map_append]; rfl
end Go.Vl

/- A call that makes rows, in a statement whose order of evaluation is open. -/
namespace Go.Vl
set_option linter.unusedVariables false
set_option linter.unusedSimpArgs false
open Go.RowKit

section
variable {P : Program} {C : Ctx} {ops : Array Oper} {K : St → Prop} {s : St} {n : Nat} {listed : Array Bool}

/-- A call that makes rows: the operation. -/
theorem ow_callR {m : Nat → MV} {a : Act} {w : World} {K' : Act → World → Prop} {Q' : Go.Exit → Act → World → Prop} (bs : List Nat) (hbs : bs = []) {brows : List Row} {t : Nat} {ty : TypeId} {pos : String} {af : Array Edge} {gd : Option (Nat × Bool)} {f : FuncId} {fn : Func} {xs : Array Operand} {Ts : Array TypeId} {args : List SV} {R : List SV → List Row → Prop}
    (hs : SimM C s m a w) (hf : P.funcs[f]? = some fn) (hnm : (fn.name == "runtime.NumGoroutine") = false) (hbd : fn.body.isNone = false) (ht : Nat.blt t s.n = true)
    (hargs : (xs.toList.map (getO s.env)).mapM (argOfB bs s.rows) = some args) (hsat : SatAt P f args brows R)
    (hb1 : bs.map (fun id => (s.rows[id]?).map Row.toArg) = brows.map some) (hb2 : brows.all Row.live = true) (hb3 : bs.map (placeOf bs) = (List.range bs.length).map some)
    (next : ∀ res rows', R res rows' → bs.length ≤ rows'.length ∧ (res.all SV.noTup = true ∧ rows'.all (Row.bdd 0) = true ∧ (rows'.take bs.length).all Row.live = true ∧ rows'.all Row.noGh = true) ∧
      (((xs.toList.map (getO s.env)).any (SV.isKept bs) = false) ∨ (res.all SV.fresh = true ∧ rows'.all Row.fresh = true)) ∧
      ∀ m' a' w', ExtW w w' → SimM C ⟨s.n, (t, packS (res.map (SV.shift bs s.rows.length))) :: s.env, rowsAfter bs s.rows rows'⟩ m' a' w' → K' a' w') :
    Oper.wp P ⟨some t, .call ⟨.value (.func f), xs, Ts⟩, ty, pos, af, gd⟩ a w K' Q' := by
  unfold Oper.wp
  have hrc : (execOp a.eval ⟨some t, .call ⟨.value (.func f), xs, Ts⟩, ty, pos, af, gd⟩).run P w = .ok (.enter f (xs.map a.eval)) w := run_call (t := t) (ty := ty) (pos := pos) (af := af) hf hnm hbd (some t)
  rw [hrc, Oper.upon_enter]
  have hbrow : ∀ (q id : Nat), bs[q]? = some id → ∃ r, s.rows[id]? = some r ∧ brows[q]? = some r.toArg ∧ r.live = true := by
    intro q id hq
    have h1 : (bs.map (fun id => (s.rows[id]?).map Row.toArg))[q]? = (brows.map some)[q]? := by rw [hb1]
    simp only [List.getElem?_map, hq, Option.map_some] at h1
    cases hr : s.rows[id]? with
    | none =>
      rw [hr] at h1
      cases hq2 : brows[q]? with
      | none => rw [hq2] at h1; simp at h1
      | some r2 => rw [hq2] at h1; simp at h1
    | some r =>
      rw [hr] at h1
      simp only [Option.map_some] at h1
      cases hq2 : brows[q]? with
      | none => rw [hq2] at h1; simp at h1
      | some r2 =>
        rw [hq2] at h1
        simp at h1
        subst h1
        refine ⟨r, rfl, rfl, ?_⟩
        rw [List.all_eq_true] at hb2
        exact toArg_live _ (hb2 _ (List.mem_of_getElem? hq2))
  have hblen : brows.length = bs.length := by
    have := congrArg List.length hb1
    simpa using this.symm
  have hblive : ∀ (q id : Nat), bs[q]? = some id → liveAt s.rows id := fun q id hq => let ⟨r, h1, _, h3⟩ := hbrow q id hq; ⟨r, h1, h3⟩
  have hplace : ∀ (q id : Nat), bs[q]? = some id → placeOf bs id = some q := by
    intro q id hq
    have h1 : (bs.map (placeOf bs))[q]? = ((List.range bs.length).map some)[q]? := by rw [hb3]
    have hlt : q < bs.length := (List.getElem?_eq_some_iff.1 hq).1
    simp only [List.getElem?_map, hq, Option.map_some, List.getElem?_range hlt, Option.some.injEq] at h1
    exact h1
  let kept : Prop := (xs.toList.map (getO s.env)).any (SV.isKept bs) = true
  let bm : Nat → MV := fun q => m ((bs[q]?).getD 0)
  let tk : Nat → Prop := fun b => ∃ (q id : Nat), bs[q]? = some id ∧ (m id).S b
  let C' : Ctx := ⟨w, fun b => Gd C s.rows m w false b ∨ (kept ∧ b < w.heap.size ∧ ¬ tk b), bs.length, bm⟩
  have hlen : args.length = xs.size := by rw [mapM_len hargs]; simp
  have htk : ∀ b, tk b → priv s.rows m b := fun b ⟨q, id, h1, h2⟩ => ⟨id, hblive q id h1, h2⟩
  have hbpriv : ∀ b, priv brows bm b → tk b := by
    rintro b ⟨q, ⟨r, hr, hl⟩, hbk⟩
    have hq : q < bs.length := by rw [← hblen]; exact (List.getElem?_eq_some_iff.1 hr).1
    have hq2 : bs[q]? = some bs[q] := List.getElem?_eq_getElem hq
    exact ⟨q, _, hq2, by simpa [bm, hq2] using hbk⟩
  have hkey : ∀ fr b, Gd C s.rows m w fr b → Gd C' brows bm w false b := fun fr b hb =>
    ⟨hb.1, fun hp => hb.2.1 (htk b (hbpriv b hp)), fun _ => .inl (.inl hb.weak), fun e => by cases e⟩
  have hs0 : SimM C' ⟨(xs.map a.eval).size, enumE 0 args, brows⟩ bm ⟨xs.map a.eval, []⟩ C'.w0 := {
    defs := rfl
    size := rfl
    os := rfl
    tape := rfl
    output := rfl
    hsz := Nat.le_refl _
    old := fun _ _ _ => rfl
    bor := fun _ _ => rfl
    nbl := by show bs.length ≤ brows.length; omega
    newb := fun id b hge hl _ => by
      obtain ⟨r, hr, _⟩ := hl
      have h1 : id < brows.length := (List.getElem?_eq_some_iff.1 hr).1
      change bs.length ≤ id at hge
      omega
    dist := fun i j b hi hj hbi hbj => by
      obtain ⟨r, hr, _⟩ := hi
      obtain ⟨r2, hr2, _⟩ := hj
      have hi1 : i < bs.length := by rw [← hblen]; exact (List.getElem?_eq_some_iff.1 hr).1
      have hj1 : j < bs.length := by rw [← hblen]; exact (List.getElem?_eq_some_iff.1 hr2).1
      have hi2 : bs[i]? = some bs[i] := List.getElem?_eq_getElem hi1
      have hj2 : bs[j]? = some bs[j] := List.getElem?_eq_getElem hj1
      simp only [bm, hi2, hj2, Option.getD_some] at hbi hbj
      have := hs.dist _ _ b (hblive i _ hi2) (hblive j _ hj2) hbi hbj
      have p1 := hplace i _ hi2
      have p2 := hplace j _ hj2
      rw [this, p2] at p1
      cases p1
      rfl
    rows := fun q r hr => by
      have hq : q < bs.length := by rw [← hblen]; exact (List.getElem?_eq_some_iff.1 hr).1
      have hq2 : bs[q]? = some bs[q] := List.getElem?_eq_getElem hq
      obtain ⟨r0, h1, h2, h3⟩ := hbrow q _ hq2
      change brows[q]? = some r at hr
      rw [hr] at h2
      cases h2
      have : bm q = m bs[q] := by simp [bm, hq2]
      rw [this]
      exact toArg_ok hkey (hs.rows _ _ h1)
    env := fun u => by
      show RS w _ _ _ (look (enumE 0 args) u) _
      rw [look_enumE]
      simp only [Nat.zero_le, if_true, Nat.sub_zero]
      rcases Nat.lt_or_ge u xs.size with hu | hu
      · have hx : (xs.toList.map (getO s.env))[u]? = some (getO s.env xs[u]) := by simp [hu]
        obtain ⟨y, hy, hg⟩ := mapM_get hargs u _ hx
        rw [hy]
        simp only [Option.getD_some]
        have e2 : (xs.map a.eval).getD u undef = a.eval xs[u] := by simp [Array.getD, hu]
        show RS w _ _ _ y ((xs.map a.eval).getD u undef)
        rw [e2]
        have hv := hs.get xs[u]
        generalize hgx : getO s.env xs[u] = gx at *
        generalize a.eval xs[u] = v at *
        cases hv with
        | pv fr p v hp =>
          simp only [argOfB, Option.some.injEq] at hg
          subst hg
          cases hsc : p.scal with
          | true => exact .pv _ _ _ (hp.scal_any hsc)
          | false => exact .pv _ _ _ (hp.mono fun b hb => ⟨hkey fr b hb, rfl⟩)
        | ref id hid =>
          simp only [argOfB] at hg
          split at hg
          · rename_i q hq
            simp at hg
            subst hg
            have hq2 := placeOf_some hq
            have : m id = bm q := by simp [bm, hq2]
            rw [this]
            exact .ref q (by show q < brows.length; rw [hblen]; exact (List.getElem?_eq_some_iff.1 hq2).1)
          · rename_i hq
            split at hg
            · rename_i t' e nl fr ys hrow
              simp at hg
              subst hg
              refine .pv _ _ _ (RP.of_row (hs.rows id _ hrow) (fun b hb => hkey _ b hb) (fun b hb => ?_))
              have hlt := hs.lt ⟨_, hrow, rfl⟩ hb
              have hk : kept := by
                show (xs.toList.map (getO s.env)).any (SV.isKept bs) = true
                rw [List.any_eq_true]
                exact ⟨.ref id, List.mem_of_getElem? hx, by simp [SV.isKept, hq]⟩
              have hnt : ¬ tk b := by
                rintro ⟨q, id', h1, h2⟩
                have := hs.dist id id' b ⟨_, hrow, rfl⟩ (hblive q id' h1) hb h2
                subst this
                exact placeOf_none hq (List.mem_of_getElem? h1)
              exact ⟨hlt, fun hp => hnt (hbpriv b hp), fun _ => .inl (.inr ⟨hk, hlt, hnt⟩), fun e => by cases e⟩
            · rename_i t' e nl ys hrow
              simp at hg
              subst hg
              refine .pv _ _ _ (RP.of_tree (hs.rows id _ hrow) (fun b hb => ?_))
              have hlt := hs.lt ⟨_, hrow, rfl⟩ hb
              have hk : kept := by
                show (xs.toList.map (getO s.env)).any (SV.isKept bs) = true
                rw [List.any_eq_true]
                exact ⟨.ref id, List.mem_of_getElem? hx, by simp [SV.isKept, hq]⟩
              have hnt : ¬ tk b := by
                rintro ⟨q, id', h1, h2⟩
                have := hs.dist id id' b ⟨_, hrow, rfl⟩ (hblive q id' h1) hb h2
                subst this
                exact placeOf_none hq (List.mem_of_getElem? h1)
              exact ⟨hlt, fun hp => hnt (hbpriv b hp), fun _ => .inl (.inr ⟨hk, hlt, hnt⟩), fun e => by cases e⟩
            · simp at hg
        | ptr id e i o b hid hbk =>
          simp only [argOfB] at hg
          split at hg
          · rename_i q hq
            simp at hg
            subst hg
            have hq2 := placeOf_some hq
            have : m id = bm q := by simp [bm, hq2]
            exact .ptr q e i o b (by show q < brows.length; rw [hblen]; exact (List.getElem?_eq_some_iff.1 hq2).1) (by rw [← this]; exact hbk)
          · simp at hg
        | ag vs us hl9 h9 h1 =>
          simp only [argOfB] at hg
          split at hg
          · rename_i ps hps
            simp at hg
            subst hg
            obtain ⟨g1, g2⟩ := argCells_get hps
            have hkey2 : ∀ (j : Nat) (p : PV) (u : Value), ps[j]? = some p → us[j]? = some u → RP w (Gd C' brows bm w false) p u ∧ p.isAgg = false := by
              intro j p u hp hu
              obtain ⟨c, hc, hcp⟩ := g2 j p hp
              refine argCell_ok hs (h9 j c u hc hu) hcp (h1 j u hu) (fun fr b hb => hkey fr b hb) (fun id b e hq hlv hb => ?_)
              subst e
              have hlt := hs.lt hlv hb
              have hk : kept := by
                show (xs.toList.map (getO s.env)).any (SV.isKept bs) = true
                rw [List.any_eq_true]
                refine ⟨.ag vs, List.mem_of_getElem? hx, ?_⟩
                show vs.any (SV.isKept1 bs) = true
                rw [List.any_eq_true]
                exact ⟨.ref id, List.mem_of_getElem? hc, by simp [SV.isKept1, hq]⟩
              have hnt : ¬ tk b := by
                rintro ⟨q, id', h1, h2⟩
                have := hs.dist id id' b hlv (hblive q id' h1) hb h2
                subst this
                exact placeOf_none hq (List.mem_of_getElem? h1)
              exact ⟨hlt, fun hp => hnt (hbpriv b hp), fun _ => .inl (.inr ⟨hk, hlt, hnt⟩), fun e => by cases e⟩
            have hul : us.size = ps.length := by rw [hl9, g1]
            refine .pv _ _ _ (.agg ps us hul (fun j c hc => ?_) (fun j c u hc hu => (hkey2 j c u hc hu).1))
            have hj : j < us.size := by rw [hul]; exact (List.getElem?_eq_some_iff.1 hc).1
            exact (hkey2 j c _ hc (Array.getElem?_eq_getElem hj)).2
          · cases hg
        | _ => simp [argOfB] at hg
      · rw [List.getElem?_eq_none (by omega)]
        exact .any _ }
  refine (hsat C' bm (xs.map a.eval) hblen.symm (fun b hb => hb.elim (fun h => h.1) (fun h => h.2.1)) (by simp [hlen]) hs0).mono ?_
  rintro e w' ⟨us, res, rows', m2, rfl, hus, hs', hR⟩
  obtain ⟨hbl, ⟨hnt, hbdd, hlv, hng⟩, hfr, hnx⟩ := next res rows' hR
  have hsz : w.heap.size ≤ w'.heap.size := hs'.hsz
  have hold : ∀ k, k < w.heap.size → ¬ tk k → w'.heap[k]? = w.heap[k]? := fun k hk hn => hs'.old k hk (fun q hq hbk => by
    have hq2 : bs[q]? = some bs[q] := List.getElem?_eq_getElem hq
    exact hn ⟨q, _, hq2, by simpa [C', bm, hq2] using hbk⟩)
  let N := s.rows.length
  let m3 : Nat → MV := fun j => if j < N then m j else m2 (j - N + bs.length)
  let nr := rowsAfter bs s.rows rows'
  have hm3 : ∀ j, j < N → m3 j = m j := fun j hj => by simp [m3, hj]
  have hm2b : ∀ (q id : Nat), bs[q]? = some id → m2 q = m id := by
    intro q id hq
    have := hs'.bor q (List.getElem?_eq_some_iff.1 hq).1
    rw [this]
    show bm q = m id
    simp [bm, hq]
  have hnrlen : nr.length = N + (rows'.length - bs.length) := by simp [nr, rowsAfter, N]
  have hnr1 : ∀ j, j < N → ∃ r0, s.rows[j]? = some r0 ∧ ((∃ q : Nat, bs[q]? = some j ∧ ∃ r', rows'[q]? = some r' ∧ nr[j]? = some r') ∨ (j ∉ bs ∧ nr[j]? = some r0)) := by
    intro j hj
    have h0 : s.rows[j]? = some s.rows[j] := List.getElem?_eq_getElem hj
    refine ⟨_, h0, ?_⟩
    have h1 : nr[j]? = some (match placeOf bs j with | some q => (rows'[q]?).getD .dead | none => s.rows[j]) := by
      simp only [nr, rowsAfter]
      rw [List.getElem?_append_left (by simp; exact hj)]
      simp [List.getElem?_mapIdx, h0]
      cases placeOf bs j <;> rfl
    cases hp : placeOf bs j with
    | none => right; rw [hp] at h1; exact ⟨placeOf_none hp, h1⟩
    | some q =>
      left
      rw [hp] at h1
      have hq := placeOf_some hp
      have hq1 : q < rows'.length := Nat.lt_of_lt_of_le (List.getElem?_eq_some_iff.1 hq).1 hbl
      have hq2 : rows'[q]? = some rows'[q] := List.getElem?_eq_getElem hq1
      refine ⟨q, hq, _, hq2, ?_⟩
      rw [h1]
      show some ((rows'[q]?).getD Row.dead) = _
      rw [hq2]
      rfl
  have hnr2 : ∀ j, N ≤ j → nr[j]? = rows'[j - N + bs.length]? := by
    intro j hj
    simp only [nr, rowsAfter]
    rw [List.getElem?_append_right (by simp; exact hj)]
    simp only [List.length_mapIdx, List.getElem?_drop]
    congr 1
    omega
  have hnlive : ∀ j, j < N → liveAt nr j → liveAt s.rows j := by
    intro j hj ⟨r, hr, hl⟩
    obtain ⟨r0, h0, h | h⟩ := hnr1 j hj
    · obtain ⟨q, hq, _⟩ := h
      exact hblive q j hq
    · rw [h.2] at hr
      cases hr
      exact ⟨r, h0, hl⟩
  have hnew : ∀ j b, N ≤ j → liveAt nr j → (m3 j).S b → liveAt rows' (j - N + bs.length) ∧ (m2 (j - N + bs.length)).S b ∧ w.heap.size ≤ b := by
    intro j b hj ⟨r, hr, hl⟩ hbk
    rw [hnr2 j hj] at hr
    have e1 : m3 j = m2 (j - N + bs.length) := by simp [m3, Nat.not_lt.2 hj]
    rw [e1] at hbk
    exact ⟨⟨r, hr, hl⟩, hbk, hs'.newb _ b (by show bs.length ≤ _; omega) ⟨r, hr, hl⟩ hbk⟩
  have hG : ∀ f b, Gd C s.rows m w f b → Gd C nr m3 w' f b ∧ w'.heap[b]? = w.heap[b]? := by
    refine Gd.step tk hsz hold htk (fun b hlt ⟨j, hl, hbk⟩ => ?_)
    rcases Nat.lt_or_ge j N with hj | hj
    · rw [hm3 j hj] at hbk
      exact ⟨j, hnlive j hj hl, hbk⟩
    · have := (hnew j b hj hl hbk).2.2
      omega
  have hG2 : ∀ fl b, (fl = true ∨ ¬ kept) → Gd C' rows' m2 w' fl b → Gd C nr m3 w' fl b := by
    intro fl b hk hb
    have hnp : ¬ priv nr m3 b := by
      rintro ⟨j, hl, hbk⟩
      rcases Nat.lt_or_ge j N with hj | hj
      · obtain ⟨r0, h0, h | h⟩ := hnr1 j hj
        · obtain ⟨q, hq, r', hr', hn⟩ := h
          rw [hm3 j hj, ← hm2b q j hq] at hbk
          refine hb.2.1 ⟨q, ⟨r', hr', ?_⟩, hbk⟩
          rw [List.all_eq_true] at hlv
          refine hlv r' (List.mem_of_getElem? (i := q) ?_)
          rw [List.getElem?_take, if_pos (List.getElem?_eq_some_iff.1 hq).1]
          exact hr'
        · rw [hm3 j hj] at hbk
          have hpl : priv s.rows m b := ⟨j, hnlive j hj hl, hbk⟩
          have hlt := hs.lt (hnlive j hj hl) hbk
          cases fl with
          | true => have := (hb.2.2.2 rfl).1; change w.heap.size ≤ b at this; omega
          | false =>
            rcases hb.2.2.1 rfl with hA | hA
            · rcases hA with hA | hA
              · exact hA.2.1 hpl
              · rcases hk with hk | hk
                · cases hk
                · exact hk hA.1
            · change w.heap.size ≤ b at hA; omega
      · obtain ⟨h1, h2, _⟩ := hnew j b hj hl hbk
        exact hb.2.1 ⟨_, h1, h2⟩
    refine ⟨hb.1, hnp, fun e => ?_, fun e => ?_⟩
    · rcases hb.2.2.1 e with hA | hA
      · rcases hA with hA | hA
        · exact hA.2.2.1 rfl
        · rcases hk with hk | hk
          · rw [hk] at e; cases e
          · exact (hk hA.1).elim
      · exact .inr (Nat.le_trans hs.hsz hA)
    · have h4 := hb.2.2.2 e
      exact ⟨Nat.le_trans hs.hsz h4.1, h4.2⟩
  have hrowC : ∀ (q : Nat) (r : Row), rows'[q]? = some r → RowOK w' (Gd C nr m3 w') m3 nr.length (m2 q) r := by
    intro q r hr
    have h0 := hs'.rows q r hr
    have hfq : kept → r.fresh = true := by
      intro hk
      rcases hfr with h | h
      · have hk' : (xs.toList.map (getO s.env)).any (SV.isKept bs) = true := hk
        rw [h] at hk'; cases hk'
      · have := h.2
        rw [List.all_eq_true] at this
        exact this r (List.mem_of_getElem? hr)
    have hbq : r.bdd 0 = true := by rw [List.all_eq_true] at hbdd; exact hbdd r (List.mem_of_getElem? hr)
    have hgq : r.noGh = true := by rw [List.all_eq_true] at hng; exact hng r (List.mem_of_getElem? hr)
    have hor : ∀ fl : Bool, (kept → fl = true) → (fl = true ∨ ¬ kept) := fun fl h => by
      by_cases hk : kept
      · exact .inl (h hk)
      · exact .inr hk
    change RowOK w' (Gd C' rows' m2 w') m2 rows'.length (m2 q) r at h0
    generalize m2 q = v at *
    cases h0 with
    | dead v => exact .dead v
    | own v t e nl fr xs vs hown h1 h2 hw hr' =>
      refine .own v t e nl fr xs vs hown h1 h2 hw (fun i x j c hx hc => ?_)
      obtain ⟨u, hu, hp⟩ := hr' i x j c hx hc
      exact ⟨u, hu, hp.mono fun b hb => ⟨hG2 fr b (hor fr hfq) hb, rfl⟩⟩
    | tree mv t e nl h xs vals Sf hown h1 h2 hw hr9 hd hn hz hS hkn => exact .tree _ t e nl h xs vals Sf hown h1 h2 hw hr9 hd hn hz hS hkn
    | mp b g es clock hbk hm' => exact .mp b g es clock hbk hm'
    | gh mv us cs hl h9 => cases hgq
    | var b t cs cur hb hl hr' h1 =>
      refine .var b t cs cur hb hl (fun j c u hc hu => ?_) h1
      have hv := hr' j c u hc hu
      have hcb : c.bdd 0 = true := by
        simp only [Row.bdd, List.all_eq_true] at hbq
        exact hbq c (List.mem_of_getElem? hc)
      have hcf : kept → c.fresh = true := by
        intro hk
        have := hfq hk
        simp only [Row.fresh, List.all_eq_true] at this
        exact this c (List.mem_of_getElem? hc)
      cases hv with
      | any v => exact .any _
      | val u => exact .val _
      | und => exact .und
      | pv fr p v hp =>
        cases hsc : p.scal with
        | true => exact .pv _ _ _ (hp.scal_any hsc)
        | false => exact .pv _ _ _ (hp.mono fun b hb => ⟨hG2 fr b (hor fr fun hk => by have := hcf hk; simpa [SV.fresh, hsc] using this) hb, rfl⟩)
      | ref i hi => simp [SV.bdd] at hcb
      | ptr i e' k o b' hi hbk => simp [SV.bdd] at hcb
      | adr fr cs' a' f' hsp hg h1' hc' hr2 =>
        by_cases hk : kept
        · have := hcf hk; simp [SV.fresh] at this
        · exact .adr fr cs' a' f' hsp (fun hne => hG2 fr _ (.inr hk) (hg hne)) h1' hc' (fun j c hj => (hr2 j c hj).mono fun b hb => ⟨hG2 fr b (.inr hk) hb, rfl⟩)
      | tup vs us' hl' h' => simp [SV.bdd] at hcb
      | sub i e' l h c' _ hid hs9 => simp [SV.bdd] at hcb
      | clo f ids us9 hl9 h9 => 
          have e9 : ids = [] := by
            cases ids with
            | nil => rfl
            | cons i ids => simp [SV.bdd] at hcb
          subst e9
          exact .clo f [] us9 hl9 (fun j i u h1 h2 => by simp at h1)
      | ag vs us' hl' h' h1' =>
        refine .ag vs us' hl' (fun q c u hc hu => ?_) h1'
        have hcb1 : c.bdd1 0 = true := by simp only [SV.bdd, List.all_eq_true] at hcb; exact hcb c (List.mem_of_getElem? hc)
        have hcf1 : kept → c.fresh1 = true := fun hk => by have := hcf hk; simp only [SV.fresh, List.all_eq_true] at this; exact this c (List.mem_of_getElem? hc)
        have hv := h' q c u hc hu
        cases hv with
        | any v => exact .any _
        | val u => exact .val _
        | und => exact .und
        | pv fr p v hp =>
          cases hsc : p.scal with
          | true => exact .pv _ _ _ (hp.scal_any hsc)
          | false => exact .pv _ _ _ (hp.mono fun b hb => ⟨hG2 fr b (hor fr fun hk => by have := hcf1 hk; simpa [SV.fresh1, hsc] using this) hb, rfl⟩)
        | ref i hi => simp [SV.bdd1] at hcb1
        | ptr i e' k o b' hi hbk => simp [SV.bdd1] at hcb1
        | adr fr cs' a' f' hsp hg h1' hc' hr2 =>
          by_cases hk : kept
          · have := hcf1 hk; simp [SV.fresh1] at this
          · exact .adr fr cs' a' f' hsp (fun hne => hG2 fr _ (.inr hk) (hg hne)) h1' hc' (fun j c hj => (hr2 j c hj).mono fun b hb => ⟨hG2 fr b (.inr hk) hb, rfl⟩)
        | tup vs us' hl' h' => simp [SV.bdd1] at hcb1
        | ag vs us' hl' h' h1' => simp [SV.bdd1] at hcb1
        | sub i e' l h c' _ hid hs9 => simp [SV.bdd1] at hcb1
        | clo f ids us9 hl9 h9 => 
          have e9 : ids = [] := by
            cases ids with
            | nil => rfl
            | cons i ids => simp [SV.bdd1] at hcb1
          subst e9
          exact .clo f [] us9 hl9 (fun j i u h1 h2 => by simp at h1)
  have hs2 : SimM C ⟨s.n, s.env, nr⟩ m3 a w' := {
    defs := hs.defs
    size := hs.size
    os := hs'.os.trans hs.os
    tape := hs'.tape.trans hs.tape
    output := hs'.output.trans hs.output
    hsz := Nat.le_trans hs.hsz hsz
    old := fun k hk hn => by
      refine (hold k (by have := hs.hsz; omega) ?_).trans (hs.old k hk hn)
      rintro ⟨q, id, h1, h2⟩
      by_cases hid : id < C.nb
      · exact hn id hid (by rw [← hs.bor id hid]; exact h2)
      · have := hs.newb id k (by omega) (hblive q id h1) h2; omega
    bor := fun id hid => by rw [hm3 id (by have := hs.nbl; show id < N; omega)]; exact hs.bor id hid
    nbl := by have := hs.nbl; show C.nb ≤ nr.length; rw [hnrlen]; show C.nb ≤ s.rows.length + _; omega
    newb := fun j b hj hl hbk => by
      rcases Nat.lt_or_ge j N with h | h
      · rw [hm3 j h] at hbk; exact hs.newb j b hj (hnlive j h hl) hbk
      · have := (hnew j b h hl hbk).2.2; have := hs.hsz; omega
    dist := fun i j b hi hj hbi hbj => by
      rcases Nat.lt_or_ge i N with h1 | h1 <;> rcases Nat.lt_or_ge j N with h2 | h2
      · rw [hm3 i h1] at hbi; rw [hm3 j h2] at hbj
        exact hs.dist i j b (hnlive i h1 hi) (hnlive j h2 hj) hbi hbj
      · rw [hm3 i h1] at hbi
        have e1 := hs.lt (hnlive i h1 hi) hbi
        have e2 := (hnew j b h2 hj hbj).2.2
        omega
      · rw [hm3 j h2] at hbj
        have e1 := hs.lt (hnlive j h2 hj) hbj
        have e2 := (hnew i b h1 hi hbi).2.2
        omega
      · obtain ⟨l1, b1, _⟩ := hnew i b h1 hi hbi
        obtain ⟨l2, b2, _⟩ := hnew j b h2 hj hbj
        have := hs'.dist _ _ b l1 l2 b1 b2
        omega
    rows := fun j r hr => by
      change nr[j]? = some r at hr
      show RowOK w' (Gd C nr m3 w') m3 nr.length (m3 j) r
      rcases Nat.lt_or_ge j N with h | h
      · rw [hm3 j h]
        obtain ⟨r0, h0, hh | hh⟩ := hnr1 j h
        · obtain ⟨q, hq, r', hr', hn⟩ := hh
          rw [hn] at hr
          cases hr
          rw [← hm2b q j hq]
          exact hrowC q r hr'
        · rw [hh.2] at hr
          cases hr
          refine RowOK.mono hG (by rw [hnrlen]; exact Nat.le_add_right _ _) (fun id hid => hm3 id hid) (hs.rows j r h0) (fun hl b hb => hold b (hs.lt ⟨r, h0, hl⟩ hb) ?_)
          rintro ⟨q, id, h1, h2⟩
          have := hs.dist j id b ⟨r, h0, hl⟩ (hblive q id h1) hb h2
          subst this
          exact hh.1 (List.mem_of_getElem? h1)
      · rw [hnr2 j h] at hr
        have e1 : m3 j = m2 (j - N + bs.length) := by simp [m3, Nat.not_lt.2 h]
        rw [e1]
        exact hrowC _ r hr
    env := fun u => by
      refine (hs.env u).mono hG ?_ (fun id hid => hm3 id hid)
      show s.rows.length ≤ nr.length
      rw [hnrlen]
      exact Nat.le_add_right _ _ }
  have hres : ∀ (j : Nat) (r : SV), res[j]? = some r → RS w' (Gd C nr m3 w') m3 nr.length (r.shift bs N) (us.getD j undef) := by
    intro j r hj
    have hv := hs'.env j
    change RS w' _ _ _ (look (enumE 0 res) j) (us.getD j undef) at hv
    rw [look_enumE] at hv
    simp only [Nat.zero_le, if_true, Nat.sub_zero, hj, Option.getD_some] at hv
    have hrf : kept → r.fresh = true := by
      intro hk
      rcases hfr with h | h
      · have hk' : (xs.toList.map (getO s.env)).any (SV.isKept bs) = true := hk
        rw [h] at hk'; cases hk'
      · have := h.1
        rw [List.all_eq_true] at this
        exact this r (List.mem_of_getElem? hj)
    have hrt : r.noTup = true := by rw [List.all_eq_true] at hnt; exact hnt r (List.mem_of_getElem? hj)
    have hidx : ∀ i, i < rows'.length → ∃ i', i' < nr.length ∧ m3 i' = m2 i ∧ (match bs[i]? with | some b => b | none => i - bs.length + N) = i' := by
      intro i hi
      cases hbi : bs[i]? with
      | some b =>
        have hbN : b < N := by
          obtain ⟨r, hr, _⟩ := hblive i b hbi
          exact (List.getElem?_eq_some_iff.1 hr).1
        exact ⟨b, by rw [hnrlen]; omega, by rw [hm3 b hbN]; exact (hm2b i b hbi).symm, rfl⟩
      | none =>
        have hge : bs.length ≤ i := by simpa using hbi
        refine ⟨i - bs.length + N, by rw [hnrlen]; omega, ?_, rfl⟩
        simp only [m3]
        rw [if_neg (by omega)]
        congr 1
        omega
    generalize us.getD j undef = v at *
    cases hv with
    | any v => exact .any _
    | val u => exact .any _
    | und => exact .any _
    | pv fr p v hp =>
      simp only [SV.shift]
      cases hsc : p.scal with
      | true => exact .pv _ _ _ (hp.scal_any hsc)
      | false =>
        refine .pv _ _ _ (hp.mono fun b hb => ⟨hG2 fr b ?_ hb, rfl⟩)
        by_cases hk : kept
        · left; have := hrf hk; simpa [SV.fresh, hsc] using this
        · exact .inr hk
    | ref i hi =>
      obtain ⟨i', h1, h2, h3⟩ := hidx i hi
      have e : SV.shift bs N (.ref i) = .ref i' := by
        simp only [SV.shift]
        cases hbi : bs[i]? <;> rw [hbi] at h3 <;> simp_all
      rw [e, ← h2]
      exact .ref i' h1
    | ptr i e k o b hi hbk =>
      obtain ⟨i', h1, h2, h3⟩ := hidx i hi
      have e : SV.shift bs N (.ptr i e k o) = .ptr i' e k o := by
        simp only [SV.shift]
        cases hbi : bs[i]? <;> rw [hbi] at h3 <;> simp_all
      rw [e]
      exact .ptr i' _ _ _ b h1 (by rw [h2]; exact hbk)
    | adr fr cs' a' f' hsp hg h1' hc' hr2 => exact .any _
    | tup vs us' hl' h' => simp [SV.noTup] at hrt
    | sub i e' l h c' _ hid hs9 => exact .any _
    | clo => exact .any _
    | ag vs us' hl' h' h1' =>
      refine .ag _ us' (by simpa using hl') (fun q c u hc hu => ?_) h1'
      simp only [List.getElem?_map, Option.map_eq_some_iff] at hc
      obtain ⟨c', hc', rfl⟩ := hc
      have hcf1 : kept → c'.fresh1 = true := fun hk => by have := hrf hk; simp only [SV.fresh, List.all_eq_true] at this; exact this c' (List.mem_of_getElem? hc')
      have hv := h' q c' u hc' hu
      cases hv with
      | pv fr p v hp =>
        simp only [SV.shift1]
        cases hsc : p.scal with
        | true => exact .pv _ _ _ (hp.scal_any hsc)
        | false =>
          refine .pv _ _ _ (hp.mono fun b hb => ⟨hG2 fr b ?_ hb, rfl⟩)
          by_cases hk : kept
          · left; have := hcf1 hk; simpa [SV.fresh1, hsc] using this
          · exact .inr hk
      | ref i hi =>
        obtain ⟨i', h1, h2, h3⟩ := hidx i hi
        have e : SV.shift1 bs N (.ref i) = .ref i' := by
          simp only [SV.shift1]
          cases hbi : bs[i]? <;> rw [hbi] at h3 <;> simp_all
        rw [e, ← h2]
        exact .ref i' h1
      | _ => exact .any _
  have hput := hs2.put (blt_lt ht) (sv := packS (res.map (SV.shift bs N))) (v := pack us) (by
    match res, hus, hres with
    | [], hus, _ =>
      have : us = #[] := Array.eq_empty_of_size_eq_zero (by simpa using hus)
      subst this
      exact .tup _ _ rfl (fun j c v hc => by simp at hc)
    | [r], hus, hres =>
      have h1 : us.size = 1 := by simpa using hus
      have := hres 0 r rfl
      simp only [packS, pack, h1, dif_pos, List.map_cons, List.map_nil]
      simpa [Array.getD, h1] using this
    | r1 :: r2 :: rs, hus, hres =>
      have h1 : us.size ≠ 1 := by rw [hus]; simp
      simp only [packS, pack, h1, dif_neg, not_false_iff, List.map_cons]
      refine .tup _ _ (by rw [hus]; simp) (fun j c v hc hv => ?_)
      have hc2 : ((r1 :: r2 :: rs).map (SV.shift bs N))[j]? = some c := by simpa using hc
      simp only [List.getElem?_map, Option.map_eq_some_iff] at hc2
      obtain ⟨c', hc', rfl⟩ := hc2
      have := hres j c' hc'
      have e : us.getD j undef = v := by
        rw [Array.getElem?_eq_some_iff] at hv
        obtain ⟨hlt, e⟩ := hv
        simp [Array.getD, hlt, e]
      rw [e] at this
      exact this)
  exact hnx _ _ _ ⟨hsz, fun k hk => hold k hk (fun ⟨q, id, h, _⟩ => by rw [hbs] at h; simp at h)⟩ hput

/-- A call that makes rows, when nothing else can come next. -/
theorem vd_callR (i : Nat) (bs : List Nat) (hbs : bs = []) {brows : List Row} {t : Nat} {ty : TypeId} {pos : String} {af : Array Edge} {gd : Option (Nat × Bool)} {f : FuncId} {fn : Func} {xs : Array Operand} {Ts : Array TypeId} {args : List SV} {R : List SV → List Row → Prop}
    (hi : ops[i]? = some ⟨some t, .call ⟨.value (.func f), xs, Ts⟩, ty, pos, af, gd⟩) (hr : Region.ready .any ops listed = [i]) (hw : Wnt C ops s ⟨some t, .call ⟨.value (.func f), xs, Ts⟩, ty, pos, af, gd⟩ true)
    (hf : P.funcs[f]? = some fn) (hnm : (fn.name == "runtime.NumGoroutine") = false) (hbd : fn.body.isNone = false) (ht : Nat.blt t s.n = true)
    (hargs : (xs.toList.map (getO s.env)).mapM (argOfB bs s.rows) = some args) (hsat : SatAt P f args brows R)
    (hb1 : bs.map (fun id => (s.rows[id]?).map Row.toArg) = brows.map some) (hb2 : brows.all Row.live = true) (hb3 : bs.map (placeOf bs) = (List.range bs.length).map some)
    (next : ∀ res rows', R res rows' → bs.length ≤ rows'.length ∧ (res.all SV.noTup = true ∧ rows'.all (Row.bdd 0) = true ∧ (rows'.take bs.length).all Row.live = true ∧ rows'.all Row.noGh = true) ∧
      (((xs.toList.map (getO s.env)).any (SV.isKept bs) = false) ∨ (res.all SV.fresh = true ∧ rows'.all Row.fresh = true)) ∧
      VD P C ops n (listed.setIfInBounds i true) K ⟨s.n, (t, packS (res.map (SV.shift bs s.rows.length))) :: s.env, rowsAfter bs s.rows rows'⟩) :
    VD P C ops (n + 1) listed K s := by
  intro m a w hs
  refine ⟨fun h => (by rw [hr] at h; cases h), fun j hj => ?_⟩
  rw [hr] at hj
  simp at hj
  subst hj
  unfold wpOp
  simp only [hi]
  rw [if_pos (hw m a w hs)]
  left
  exact ow_callR bs hbs hs hf hnm hbd ht hargs hsat hb1 hb2 hb3 (fun res rows' hR => let ⟨h1, h2, h3, h4⟩ := next res rows' hR; ⟨h1, h2, h3, fun m' a' w' hx hs' => ⟨hx, h4 m' a' w' hs'⟩⟩)

end
end Go.Vl

/- More ghost steps: a row forgets that what it holds is new. -/
namespace Go.Vl
set_option linter.unusedVariables false
set_option linter.unusedSimpArgs false
open Go.RowKit

section
variable {P : Program} {C : Ctx} {Q : Go.Exit → St → Prop} {s : St}
theorem vc_flagrow {code : Code} (id : Nat) {el e : Nat} {nl : Option Bool} {f : Bool} {xs : List PV} (hrow : s.rows[id]? = some (.own el e nl f xs))
    (next : VC P C code Q ⟨s.n, s.env, s.rows.set id (.own el e nl false xs)⟩) : VC P C code Q s := by
  intro a w ⟨m, hs⟩
  refine next a w ⟨m, hs.storeRow (w' := w) (bo := none) ⟨_, hrow, rfl⟩ (fun _ e => by cases e) ⟨rfl, rfl, rfl, Nat.le_refl _, fun _ _ _ => rfl⟩ _ (fun hG => ?_)⟩
  have h := hs.rows id _ hrow
  generalize m id = v at h
  cases h with
  | own v t e nl fr xs vs hown h1 h2 hw hr =>
    refine .own v _ _ _ _ _ vs hown h1 h2 hw (fun i x j c hx hc => ?_)
    obtain ⟨u, hu, hp⟩ := hr i x j c hx hc
    exact ⟨u, hu, hp.mono fun b hb => ⟨(hG _ b hb).1.weak, (hG _ b hb).2⟩⟩
end
end Go.Vl

/- Nil slices of the call's own that are known to be nil; a slice held to differ from nil. -/
namespace Go.Vl
set_option linter.unusedVariables false
set_option linter.unusedSimpArgs false
open Go.RowKit

section
variable {P : Program} {C : Ctx} {Q : Go.Exit → St → Prop} {s : St} {ops : Array Oper} {rest : List Oper} {t : Nat} {ty : TypeId} {pos : String} {af : Array Edge}

theorem vc_own_nilT {code : Code} (u : Nat) {T el e by' e0 : Nat} {d : PV} {f : Bool} (hI : ElInfo P T el e by' d) (hu : look s.env u = .pv f (.sl (some true) e0 []))
    (next : VC P C code Q ⟨s.n, (u, .ref s.rows.length) :: s.env, s.rows ++ [.own el e (some true) true []]⟩) : VC P C code Q s := by
  intro a w ⟨m, hs⟩
  have hv := hs.env u
  rw [hu] at hv
  have hv := hv.pv_inv
  have hval : a.tmps.getD u undef = .slice none 0 0 := by
    generalize a.tmps.getD u undef = v at hv
    cases hv with
    | nilsl => rfl
    | sl nl e xs a len cap f h => exact (h rfl).elim
  have hadd := hs.addRow (w' := w) ⟨rfl, rfl, rfl, Nat.le_refl _, fun _ _ _ => rfl⟩ (.own el e (some true) true []) (.of <| .slice none 0 0)
    (fun b hb => by simp [MV.of, blk] at hb) (fun hG => .own _ el e _ true [] [] (World.ownsRow_nil w 0 el e) (fun _ => rfl) (fun h => by cases h) (fun i x hx => by simp at hx) (fun i x j c hx => by simp at hx))
  refine next a w ⟨_, { hadd.1 with env := fun q => ?_ }⟩
  show RS _ _ _ _ (look ((u, .ref s.rows.length) :: s.env) q) _
  rw [look_cons]
  split
  · rename_i e
    subst e
    rw [hval]
    have := RS.ref (w := w) (G := Gd C (s.rows ++ [.own el e (some true) true []]) (updM m s.rows.length (.of <| .slice none 0 0)) w) (m := updM m s.rows.length (.of <| .slice none 0 0)) (N := (s.rows ++ [Row.own el e (some true) true []]).length) s.rows.length (by simp)
    rw [updM_same] at this
    exact this
  · exact hadd.1.env q

end
end Go.Vl

/- A slice is taken out of a row whose slices are its own: it becomes a row. -/
namespace Go.Vl
set_option linter.unusedVariables false
set_option linter.unusedSimpArgs false
open Go.RowKit

theorem RS.monoV {w w' : World} {G G' : Bool → Nat → Prop} {m m' : Nat → MV} {N N' : Nat} (hG : ∀ fr b, G fr b → G' fr b ∧ w'.heap[b]? = w.heap[b]?)
    (hN : N ≤ N') (hm : ∀ id, id < N → (m' id).v = (m id).v) {s : SV} {v : Value} (h : RS w G m N s v) : RS w' G' m' N' s v := by
  induction h with
  | any v => exact .any v
  | val u => exact .val _
  | und => exact .und
  | pv fr p v h => exact .pv fr p v (h.mono (hG fr))
  | ref id h => rw [← hm id h]; exact .ref id (by omega)
  | ptr id e i o b hid h => exact .ptr id e i o b (by omega) (by rw [hm id hid]; exact h)
  | adr fr cs a f hs hg h1 hc hr =>
    refine .adr fr cs a f hs (fun hne => (hG fr _ (hg hne)).1) h1 (fun j c hj => ?_) (fun j c hj => (hr j c hj).mono (hG fr))
    have hne : cs ≠ [] := by intro h0; subst h0; simp at hj
    have := (hG fr _ (hg hne)).2
    rw [← hc j c hj]
    simp [World.cell?, this]
  | tup vs us hl h ih => exact .tup vs us hl ih
  | ag vs us hl h h1 ih => exact .ag vs us hl ih h1
  | sub i e l h c v hid hs => exact .sub i e l h c v (by omega) (by rw [hm i hid]; exact hs)
  | clo f ids us hl h => exact .clo f ids us hl (fun j i u h1 h2 => by
      obtain ⟨g1, b, g2, g3⟩ := h j i u h1 h2
      exact ⟨by omega, b, by rw [hm i g1]; exact g2, g3⟩)

theorem RowOK.monoV {w w' : World} {G G' : Bool → Nat → Prop} {m m' : Nat → MV} {N N' : Nat} {v : MV} {r : Row} (hG : ∀ fr b, G fr b → G' fr b ∧ w'.heap[b]? = w.heap[b]?)
    (hN : N ≤ N') (hm : ∀ id, id < N → (m' id).v = (m id).v) (h : RowOK w G m N v r) (hb : r.live = true → ∀ b, v.S b → w'.heap[b]? = w.heap[b]?) : RowOK w' G' m' N' v r := by
  cases h with
  | dead v => exact .dead v
  | own v t e nl fr xs vs hown h1 h2 hw hr =>
    refine .own v t e nl fr xs vs ?_ h1 h2 hw (fun i x j c hx hc => ?_)
    · refine ⟨hown.1, ?_⟩
      rcases hown.2 with h | ⟨g, cap, cur, rfl, h0, hh, rest⟩
      · exact .inl h
      · exact .inr ⟨g, cap, cur, rfl, h0, by rw [hb rfl g rfl]; exact hh, rest⟩
    · obtain ⟨u, hu, hp⟩ := hr i x j c hx hc
      exact ⟨u, hu, hp.mono (hG fr)⟩
  | var b t cs cur hbk hl hr h1 =>
    exact .var b t cs cur (by rw [hb rfl b rfl]; exact hbk) hl (fun j c u hc hu => (hr j c u hc hu).monoV hG hN hm) h1
  | gh mv us cs hl h => exact .gh _ us cs hl (fun j c u hc hu => (h j c u hc hu).monoV hG hN hm)
  | mp b g es clock hbk hm' => exact .mp b g es clock (by rw [hb rfl b rfl]; exact hbk) hm'
  | tree mv t e nl h xs vals Sf hown h1 h2 hw hr hd hn hz hS hkn =>
    exact .tree _ t e nl h xs vals Sf (ownsRow_blk hown fun b h => hb rfl b ((hS b).2 (.inl h))) h1 h2 hw
      (fun i x j c u hx hc hu => (hr i x j c u hx hc hu).mono fun b h => hb rfl b ((hS b).2 (.inr ⟨_, h⟩))) hd hn hz hS hkn


section
variable {P : Program} {C : Ctx} {Q : Go.Exit → St → Prop} {s : St} {ops : Array Oper} {rest : List Oper} {t : Nat} {ty : TypeId} {pos : String} {af : Array Edge}

end
end Go.Vl

/- A row of the call's own held to differ from nil. -/
namespace Go.Vl
set_option linter.unusedVariables false
set_option linter.unusedSimpArgs false
open Go.RowKit

section
variable {P : Program} {C : Ctx} {Q : Go.Exit → St → Prop} {s : St} {ops : Array Oper} {rest : List Oper} {t : Nat} {ty : TypeId} {pos : String} {af : Array Edge}

end
end Go.Vl

/- A slice of a row whose slices are its own held against nil. -/
namespace Go.Vl
set_option linter.unusedVariables false
set_option linter.unusedSimpArgs false
open Go.RowKit

section
variable {P : Program} {C : Ctx} {Q : Go.Exit → St → Prop} {s : St} {ops : Array Oper} {rest : List Oper} {t : Nat} {ty : TypeId} {pos : String} {af : Array Edge}

/-- A slice of a row held against the literal nil. -/
theorem vo_eqnil_val {x : Operand} {T T2 el : TypeId} {nl : Option Bool} {e : Nat} {xs : List PV} (ht : Nat.blt t s.n = true) {id i : Nat} {R : TypeId} {nlr : Option Bool} {ws : List PV} {u : Value} (hx : getO s.env x = .val u) (hrow : s.rows[id]? = some (.tree R 1 nlr (some (i, some u)) ws)) (hget : ws[i]? = some (.sl nl e xs)) (hT : P.underlying T = some (.slice el))
    (next : ∀ b : Bool, (b = true → xs = []) → (nl = some true → b = true) → (nl = some false → b = false) → VO P C ops rest Q (s.put t (.pv true (.bool b)))) :
    VO P C ops (⟨some t, .binOp .eql T x (.const (.slice none 0 0)) T2, ty, pos, af, none⟩ :: rest) Q s := by
  intro a w ⟨m, hs⟩
  have hv0 : a.eval x = u := by
    have := hs.get x
    rw [hx] at this
    generalize a.eval x = v at this
    cases this
    rfl
  have hR := hs.rows id _ hrow
  have key : ∃ b : Bool, (b = true → xs = []) ∧ (nl = some true → b = true) ∧ (nl = some false → b = false) ∧ (execOp a.eval ⟨some t, .binOp .eql T x (.const (.slice none 0 0)) T2, ty, pos, af, none⟩).run P w = .ok (.value (.bool b)) w := by
    have hrun : ∀ (o : Option Addr) (l c : Nat), a.eval x = .slice o l c → (execOp a.eval ⟨some t, .binOp .eql T x (.const (.slice none 0 0)) T2, ty, pos, af, none⟩).run P w = .ok (.value (.bool o.isNone)) w := by
      intro o l c e
      have hg : (eqGuard .eql T x (.const (.slice none 0 0)) (.slice o l c) (.slice none 0 0)).run P w = .ok () w := rfl
      have heq : (Op.equal T (.slice o l c) (.slice none 0 0)).run P w = .ok o.isNone w := by
        show (Op.equalIn (9999 + 1) T (.slice o l c) (.slice none 0 0)).run P w = _
        unfold Op.equalIn
        cases o <;> simp [run_underlying hT]
      have hb : (binOp .eql T (.slice o l c) (.slice none 0 0)).run P w = .ok (.bool o.isNone) w := by
        show (do pure (Value.bool (← Op.equal T (.slice o l c) (.slice none 0 0))) : Sem Value).run P w = _
        simp [heq]
      have e3 : a.eval (.const (.slice none 0 0)) = .slice none 0 0 := rfl
      simp only [execOp, e, e3]
      simp [hg, hb]
    generalize m id = v at *
    cases hR with
    | tree mv t' e' nl' h xs' vals Sf hown h1 h2 hw hr hd hn hz hS hkn =>
      have hui : vals[i]? = some u := hkn i u rfl
      have hTP : TP w (.sl nl e xs) u (Sf i) := by
        have := (hr i (.sl nl e xs) 0 (.sl nl e xs) u hget rfl (by simpa using hui)).tpK
        simpa using this
      cases hTP with
      | scal _ _ _ hsc9 => simp [PV.scal] at hsc9
      | sl tc e nl xs v vals2 Sf2 S hown2 g1 g2 gw gr gd gn gz gS =>
        rcases hown2.2 with ⟨e0, hn0⟩ | ⟨g, cap, cur, e0, _⟩
        · refine ⟨true, fun _ => List.eq_nil_of_length_eq_zero hn0, fun _ => rfl, fun h => (g2 h e0).elim, ?_⟩
          exact hrun none 0 0 (hv0.trans e0)
        · refine ⟨false, (fun h => by cases h), (fun h => by have := g1 h; rw [e0] at this; cases this), fun _ => rfl, ?_⟩
          exact hrun (some _) _ _ (hv0.trans e0)
  obtain ⟨b, h1, h2, h3, hrun⟩ := key
  refine wpList_plain rfl fun K hK => ?_
  unfold Oper.wp
  rw [hrun, Oper.upon_value]
  exact hK _ _ (next b h1 h2 h3 _ _ ⟨m, hs.put (blt_lt ht) (.pv _ _ _ (.bool b))⟩)

end
end Go.Vl

/- Ghost steps in a statement whose order is open. -/
namespace Go.Vl
set_option linter.unusedVariables false
set_option linter.unusedSimpArgs false
open Go.RowKit
theorem vd_st {P : Program} {C : Ctx} {ops : Array Oper} {K : St → Prop} {s s' : St} {n : Nat} {listed : Array Bool} (h : s = s') (next : VD P C ops n listed K s') : VD P C ops n listed K s := by rw [h]; exact next
end Go.Vl

/- Statements whose order of evaluation is open, with operations that write: these come when nothing else can. -/
namespace Go.Vl
set_option linter.unusedVariables false
set_option linter.unusedSimpArgs false
open Go.RowKit

section
variable {P : Program} {ops : Array Oper} {Q : Go.Exit → Act → World → Prop}

/-- Whatever order is picked; each step leaves all that was there as it was, or is one of those that come late. -/
def anyL (late : List Nat) (P : Program) (ops : Array Oper) (Q : Go.Exit → Act → World → Prop) : Nat → Array Bool → Act → World → Prop
  | 0, listed, a, w => Region.ready .any ops listed = [] ∧ Q .normal a w
  | n + 1, listed, a, w => (Region.ready .any ops listed = [] → Q .normal a w) ∧
      ∀ i ∈ Region.ready .any ops listed, wpOp P ops Q i (fun a' w' => (ExtW w w' ∨ late.contains i = true) ∧ anyL late P ops Q n (listed.setIfInBounds i true) a' w') a w

theorem any_of_anyL {late : List Nat} : ∀ (n : Nat) (listed : Array Bool) (a : Act) (w : World), anyL late P ops Q n listed a w → wpAny P .any ops Q n listed a w
  | 0, _, _, _, h => h
  | n + 1, _, _, _, h => ⟨h.1, fun i hi => wpOp_mono (fun a' w' h' => any_of_anyL n _ a' w' h'.2) (h.2 i hi)⟩

theorem anyL_first {late : List Nat} {M : Nat → Bool} {i : Nat} {oi : Oper} {v : Value} (hi : ops[i]? = some oi) (hsel : ∀ (j : Nat) (o : Oper) cs b, ops[j]? = some o → o.op ≠ .select cs b) (hQ : ∀ c a w, ¬ Q (.panic c) a w)
    (hcl : ∀ j oj, ops[j]? = some oj → j ≠ i → (∀ e ∈ oj.after, Region.binds .any e = true → M e.on = true) → M j = true ∧ late.contains j = false) :
    ∀ (n : Nat) (listed : Array Bool) (a : Act) (w : World),
      (∀ j oj, ops[j]? = some oj → j ≠ i → listed.getD j true = false → (∀ e ∈ oj.after, Region.binds .any e = true → e.on ≠ i) → oi.apart ops oj = true) →
      (∀ k, listed.getD k false = true → M k = true) →
      i ∈ Region.ready .any ops listed → yieldsE P ops oi v a w → anyL late P ops Q n (listed.setIfInBounds i true) (a.put oi.dst v) w → anyL late P ops Q (n + 1) listed a w := by
  intro n
  induction n with
  | zero =>
    intro listed a w _ _ hr hy H
    refine ⟨fun h => (by rw [h] at hr; cases hr), fun j hj => ?_⟩
    by_cases hji : j = i
    · subst hji; exact hy.op hi ⟨.inl (ExtW.refl w), H⟩
    · have := ready_mono hj hji
      rw [H.1] at this
      cases this
  | succ n ih =>
    intro listed a w hfree hsub hr hy H
    refine ⟨fun h => (by rw [h] at hr; cases hr), fun j hj => ?_⟩
    by_cases hji : j = i
    · subst hji; exact hy.op hi ⟨.inl (ExtW.refl w), H⟩
    · have g1 := H.2 j (ready_mono hj hji)
      obtain ⟨hjun, oj, hoj, hall⟩ := mem_ready.1 hj
      have hnot : ∀ e ∈ oj.after, Region.binds .any e = true → e.on ≠ i := by
        intro e he hb heq
        have l1 := hall e he hb
        have l0 := (mem_ready.1 hr).1
        rw [heq] at l1
        rcases Nat.lt_or_ge i listed.size with h' | h'
        · simp [h'] at l0 l1
          rw [l0] at l1
          cases l1
        · simp [Array.getElem?_eq_none h'] at l1
      obtain ⟨hMj, hlj⟩ := hcl j oj hoj hji (fun e he hb => hsub _ (hall e he hb))
      have hext : ∀ (w' : World), (ExtW w w' ∨ late.contains j = true) → ExtW w w' := by
        intro w' h
        rcases h with h | h
        · exact h
        · rw [hlj] at h; cases h
      have g2 := op_before hoj (hfree j oj hoj hji hjun hnot) (fun cs b => hsel i oi cs b hi) (fun cs b => hsel j oj cs b hoj) hQ (fun _ w' h => hext w' h.1) hy g1
      have hfree' : ∀ k ok, ops[k]? = some ok → k ≠ i → (listed.setIfInBounds j true).getD k true = false → (∀ e ∈ ok.after, Region.binds .any e = true → e.on ≠ i) → oi.apart ops ok = true := by
        intro k ok hk hki hun hno
        refine hfree k ok hk hki ?_ hno
        by_cases hjk : j = k
        · subst hjk; exact hjun
        · rw [getD_set_ne true hjk] at hun; exact hun
      have hsub' : ∀ k, (listed.setIfInBounds j true).getD k false = true → M k = true := by
        intro k hk
        by_cases hjk : j = k
        · subst hjk; exact hMj
        · rw [getD_set_ne false hjk] at hk; exact hsub k hk
      refine wpOp_mono (fun a' w' g3 => ⟨g3.2.1, ih (listed.setIfInBounds j true) a' w' hfree' hsub' (ready_mono hr (Ne.symm hji)) g3.1 ?_⟩) g2
      rw [Array.setIfInBounds_comm _ _ hji]
      exact g3.2.2

/-- Without i no late operation can come: M has all that can. -/
def closedB (ops : Array Oper) (late M : List Nat) (i : Nat) : Bool :=
  (List.range ops.size).all fun j => j == i || match ops[j]? with
    | some oj => (oj.after.any fun e => Region.binds .any e && !M.contains e.on) || (M.contains j && !late.contains j)
    | none => true
def subB (listed : Array Bool) (M : List Nat) : Bool := (List.range listed.size).all fun k => !listed.getD k false || M.contains k

theorem closed_spec {late M : List Nat} {i : Nat} (h : closedB ops late M i = true) (j : Nat) (oj : Oper) (hj : ops[j]? = some oj) (hne : j ≠ i) (he : ∀ e ∈ oj.after, Region.binds .any e = true → M.contains e.on = true) :
    M.contains j = true ∧ late.contains j = false := by
  simp only [closedB, List.all_eq_true, List.mem_range] at h
  have h1 := h j (Array.getElem?_eq_some_iff.1 hj).1
  simp only [hj, Bool.or_eq_true, beq_iff_eq, hne, false_or] at h1
  rcases h1 with h1 | h1
  · obtain ⟨e, h2, h3⟩ := Array.any_eq_true'.1 h1
    simp only [Bool.and_eq_true, Bool.not_eq_true'] at h3
    rw [he e h2 h3.1] at h3
    cases h3.2
  · simp only [Bool.and_eq_true, Bool.not_eq_true'] at h1
    exact h1

theorem sub_spec {listed : Array Bool} {M : List Nat} (h : subB listed M = true) (k : Nat) (hk : listed.getD k false = true) : M.contains k = true := by
  simp only [subB, List.all_eq_true, List.mem_range, Bool.or_eq_true, Bool.not_eq_true'] at h
  rcases Nat.lt_or_ge k listed.size with h1 | h1
  · rcases h k h1 with h2 | h2
    · rw [hk] at h2; cases h2
    · exact h2
  · simp [Array.getD, Nat.not_lt.2 h1] at hk
end

def VL (late : List Nat) (P : Program) (C : Ctx) (ops : Array Oper) (n : Nat) (listed : Array Bool) (K : St → Prop) (s : St) : Prop := ∀ m a w, SimM C s m a w → anyL late P ops (post0 C K) n listed a w

section
variable {late : List Nat} {P : Program} {C : Ctx} {ops : Array Oper} {K : St → Prop} {s : St} {n : Nat} {listed : Array Bool}

theorem vc_drawL (late : List Nat) {id : Nat} {Q : Go.Exit → St → Prop} (hd : Region.departs ops = false) (h : VL late P C ops ops.size (Array.replicate ops.size false) (Q .normal) s) : VC P C (.region id ops true) Q s := by
  intro a w ⟨m, hs⟩
  refine wp_region_draw fun t => ?_
  simp only [Region.schedule, hd, Bool.not_false, Bool.or_true, if_true]
  refine wpOps_monoQ (Q := post0 C (Q .normal)) ?_ _ _ _ (wpAny_sound ops.size t _ a _ (any_of_anyL _ _ _ _ (h m a _ (hs.grow (w' := { w with drawn := w.drawn + 1 }) (ExtW.refl w) rfl rfl rfl))))
  rintro e a' w' ⟨rfl, s', hs', hk⟩
  exact ⟨s', hs', hk⟩

theorem vl_light (i : Nat) (M : List Nat) {o : Oper} {t : Nat} {sv : SV} (hi : ops[i]? = some o) (hd : o.dst = some t) (ht : Nat.blt t s.n = true) (hr : (Region.ready .any ops listed).contains i = true) (hns : Region.noSelect ops = true)
    (hf : Region.free .any ops listed i = true) (hM : closedB ops late M i = true) (hsub : subB listed M = true) (hw : Wnt C ops s o true) (hl : Lt P C s { o with guard := none } sv) (next : VL late P C ops n (listed.setIfInBounds i true) K (s.put t sv)) : VL late P C ops (n + 1) listed K s := by
  intro m a w hs
  obtain ⟨v, hrun, hv⟩ := hl m a w hs
  refine anyL_first (M := M.contains) hi (Region.noSelect_spec hns) post0_panic (fun j oj hj hne he => closed_spec hM j oj hj hne he) n listed a w (Region.free_spec hi hf) (sub_spec hsub) (by simpa using hr) (.inl ⟨hw m a w hs, hrun⟩) ?_
  rw [hd]
  exact next m _ _ (hs.put (blt_lt ht) hv)

theorem vl_nil (hr : Region.ready .any ops listed = []) (h : K s) : VL late P C ops n listed K s := by
  intro m a w hs
  have hq : post0 C K .normal a w := ⟨rfl, s, ⟨m, hs⟩, h⟩
  cases n with
  | zero => exact ⟨hr, hq⟩
  | succ n => exact ⟨fun _ => hq, by rw [hr]; simp⟩

theorem wp_mono2 {Q Q' : Go.Exit → Act → World → Prop} {K K' : Act → World → Prop} (hq : ∀ e a w, e ≠ .normal → Q e a w → Q' e a w) (hk : ∀ a w, K a w → K' a w) {o : Oper} {a : Act} {w : World} (h : o.wp P a w K Q) : o.wp P a w K' Q' := by
  unfold Oper.wp at *
  generalize (execOp a.eval o).run P w = r at *
  cases r with
  | ok x w' =>
    cases x with
    | value u => exact hk _ _ h
    | skip => exact hk _ _ h
    | defer d => exact hk _ _ h
    | enter f args =>
      simp only [Oper.upon] at h ⊢
      refine h.mono fun e w'' he => ?_
      cases e with
      | returned u => exact hk _ _ he
      | panicked c => exact hq _ _ _ (by simp) he
      | outgrown => obtain ⟨a3, w3, h3⟩ := he; exact ⟨a3, w3, hq _ _ _ (by simp) h3⟩
    | row row args => exact Rows.mono h fun u w'' he => hk _ _ he
    | _ => exact h
  | halt x w' =>
    cases x with
    | panic v => exact hq _ _ _ (by simp) h
    | _ => exact h

/-- An operation when nothing else can come. -/
theorem vl_one (i : Nat) {o : Oper} (hi : ops[i]? = some o) (hr : Region.ready .any ops listed = [i]) (hlate : late.contains i = true)
    (h : VO P C ops [o] (fun e s' => e = .normal ∧ VL late P C ops n (listed.setIfInBounds i true) K s') s) : VL late P C ops (n + 1) listed K s := by
  intro m a w hs
  refine ⟨fun h0 => (by rw [hr] at h0; cases h0), fun j hj => ?_⟩
  rw [hr] at hj
  simp at hj
  subst hj
  have h1 := h a w ⟨m, hs⟩
  have hfin : ∀ a' w', wpList P ops (post C (fun e s' => e = .normal ∧ VL late P C ops n (listed.setIfInBounds j true) K s')) [] a' w' → (ExtW w w' ∨ late.contains j = true) ∧ anyL late P ops (post0 C K) n (listed.setIfInBounds j true) a' w' := by
    rintro a' w' ⟨s', ⟨m', hs'⟩, _, h2⟩
    exact ⟨.inr hlate, h2 m' a' w' hs'⟩
  have hpost : ∀ e a' w', e ≠ .normal → post C (fun e s' => e = .normal ∧ VL late P C ops n (listed.setIfInBounds j true) K s') e a' w' → post0 C K e a' w' := by
    rintro e a' w' hne ⟨s', _, h2, _⟩
    exact absurd h2 hne
  unfold wpOp
  simp only [hi]
  unfold wpList at h1
  by_cases hw : Region.wanted o (yielded ops a.tmps) = true
  · rw [if_pos hw] at h1 ⊢
    rcases h1 with h1 | ⟨h1, a2, w2, h2⟩
    · exact .inl (wp_mono2 hpost hfin h1)
    · exact .inr ⟨h1, a2, w2, hpost _ _ _ (by simp) h2⟩
  · rw [if_neg hw] at h1 ⊢
    exact hfin _ _ h1

theorem vl_st {s' : St} (h : s = s') (next : VL late P C ops n listed K s') : VL late P C ops n listed K s := by rw [h]; exact next
theorem vo_done {Q : Go.Exit → St → Prop} (h : Q .normal s) : VO P C ops [] Q s := vo_nil h
end
end Go.Vl

/- '==' on structs of two numbers. -/
namespace Go.Vl
set_option linter.unusedVariables false
set_option linter.unusedSimpArgs false
open Go.RowKit

/-- Structs of two numbers are compared number by number. -/
def EqI2 (P : Program) (T : TypeId) : Prop :=
  (∀ (x y x' y' : Int) (w : World), (Op.equalIn 10000 T (.agg #[.int .i64 x, .int .i64 y]) (.agg #[.int .i64 x', .int .i64 y'])).run P w = .ok (x == x' && y == y') w) ∧ P.eqGuardType P.depth T = false

section
variable {P : Program} {C : Ctx} {Q : Go.Exit → St → Prop} {s : St} {ops : Array Oper} {rest : List Oper} {t : Nat} {ty : TypeId} {pos : String} {af : Array Edge}

end
end Go.Vl

/- Operations that make new memory, in a statement whose order of evaluation is open. -/
namespace Go.Vl
set_option linter.unusedVariables false
set_option linter.unusedSimpArgs false
open Go.RowKit

/-- The operation hands back a value, and all that was there is there as it was. -/
def Xt (P : Program) (C : Ctx) (s : St) (o : Oper) (s1 : St) (sv : SV) : Prop :=
  ∀ m a w, SimM C s m a w → ∃ v w' m', (execOp a.eval o).run P w = .ok (.value v) w' ∧ SimM C s1 m' a w' ∧ RS w' (Gd C s1.rows m' w') m' s1.rows.length sv v ∧ ExtW w w'

section
variable {late : List Nat} {P : Program} {C : Ctx} {ops : Array Oper} {K : St → Prop} {s s1 : St} {n : Nat} {listed : Array Bool}

end
section
variable {P : Program} {C : Ctx} {s : St} {t : Nat} {ty : TypeId} {pos : String} {af : Array Edge}

end
end Go.Vl

/- Side conditions and plain states, by a tactic that the rule itself carries. -/
namespace Go.Vl
set_option linter.unusedVariables false
set_option linter.unusedSimpArgs false
open Go.RowKit

/-- A side condition. -/
theorem sd {p : Prop} (h : p := by first | omega | (simp only [List.length_map] <;> omega) | (simp only [List.length_map, List.length_set, List.length_append, List.length_cons, List.length_nil, List.length_replicate, List.length_take, List.length_drop] <;> omega) | (simp <;> omega) | (constructor <;> (first | omega | (simp <;> omega))) | (refine ⟨?_, ?_, ?_, ?_⟩ <;> omega) | exact ⟨xorI_nonneg _ _, by omega⟩ | decide) : p := h

section
variable {late : List Nat} {P : Program} {C : Ctx} {Q : Go.Exit → St → Prop} {K : St → Prop} {s s' : St} {ops : Array Oper} {n : Nat} {listed : Array Bool}
theorem vo_stN {l : List Oper} (next : VO P C ops l Q s') (h : s = s' := by (try simp only [St.put, exposeE, killE, SV.expose, SV.kill, Row.expose, Row.kill, rowsAfter_nil, rowsAfter_one, packS, SV.shift, placeOf, enumE, List.zip_cons_cons, List.zip_nil_right, List.map_cons, List.map_nil, List.set_cons_zero, List.set_cons_succ, List.length_cons, List.length_nil, List.cons_append, List.nil_append, List.drop_succ_cons, List.drop_zero, List.drop_nil, List.take_succ_cons, List.take_zero, List.take_nil, List.getElem?_cons_zero, List.getElem?_cons_succ, List.getElem?_nil, Option.getD_some, Option.getD_none, Option.map_some, Option.map_none, Nat.reduceAdd, Nat.reduceSub, Nat.reduceEqDiff, Nat.zero_add, Bool.true_or, PV.scal, Bool.or_false, Bool.or_true, Bool.false_or, Bool.and_true, Bool.and_false, Bool.true_and, reduceIte, reduceCtorEq]); exact eq_refl _) : VO P C ops l Q s := vo_st h next
theorem vc_stN {code : Code} (next : VC P C code Q s') (h : s = s' := by (try simp only [St.put, exposeE, killE, SV.expose, SV.kill, Row.expose, Row.kill, rowsAfter_nil, rowsAfter_one, packS, SV.shift, placeOf, enumE, List.zip_cons_cons, List.zip_nil_right, List.map_cons, List.map_nil, List.set_cons_zero, List.set_cons_succ, List.length_cons, List.length_nil, List.cons_append, List.nil_append, List.drop_succ_cons, List.drop_zero, List.drop_nil, List.take_succ_cons, List.take_zero, List.take_nil, List.getElem?_cons_zero, List.getElem?_cons_succ, List.getElem?_nil, Option.getD_some, Option.getD_none, Option.map_some, Option.map_none, Nat.reduceAdd, Nat.reduceSub, Nat.reduceEqDiff, Nat.zero_add, Bool.true_or, PV.scal, Bool.or_false, Bool.or_true, Bool.false_or, Bool.and_true, Bool.and_false, Bool.true_and, reduceIte, reduceCtorEq]); exact eq_refl _) : VC P C code Q s := vc_st h next
end
end Go.Vl

/- A call whose function's code is gone through in its place: the caller's slots wait in a row of their own. -/
namespace Go.Vl
set_option linter.unusedVariables false
set_option linter.unusedSimpArgs false
open Go.RowKit

/-- What a result holds at a function's end. -/
def resG (s : St) : Nat × Option (Nat × Nat) → SV
  | (t, none) => look s.env t
  | (a, some _) => match look s.env a with
    | .ptr id 0 0 0 => match s.rows[id]? with
      | some (.var _ cs) => match collectC cs with
        | some (f, ps) => .pv f (.agg ps)
        | none => .ag cs
      | _ => .any
    | _ => .any

/-- Is the result there? -/
def resGOK (s : St) : Nat × Option (Nat × Nat) → Bool
  | (_, none) => true
  | (a, some (_, n)) => match look s.env a with
    | .ptr id 0 0 0 => match s.rows[id]? with
      | some (.var _ cs) => Nat.beq cs.length n
      | _ => false
    | _ => false

def inQ (us : List Value) (i : Nat) (L : List Nat) (rs : List (Nat × Option (Nat × Nat))) (n t : Nat) (K : St → Prop) (e : Go.Exit) (s' : St) : Prop :=
  (e = .normal ∨ e = .ret) ∧ ∃ cs', s'.rows[i]? = some (.gh us cs') ∧ rs.all (resGOK s') = true ∧ K ⟨n, (t, packS (rs.map (resG s'))) :: L.zip cs', s'.rows.set i .dead⟩

theorem inQ_ret {us : List Value} {i : Nat} {L : List Nat} {rs : List (Nat × Option (Nat × Nat))} {n t : Nat} {K : St → Prop} {s' : St} {cs' : List SV} (h1 : s'.rows[i]? = some (.gh us cs')) (h2 : rs.all (resGOK s') = true)
    (h : K ⟨n, (t, packS (rs.map (resG s'))) :: L.zip cs', s'.rows.set i .dead⟩) : inQ us i L rs n t K .ret s' := ⟨.inr rfl, cs', h1, h2, h⟩
theorem look_zip2 : ∀ (L : List Nat) (cs : List SV) (u : Nat), look (L.zip cs) u = .any ∨ ∃ (j : Nat) (c : SV), L[j]? = some u ∧ cs[j]? = some c ∧ look (L.zip cs) u = c
  | [], cs, u => .inl (by simp [look])
  | _ :: _, [], u => .inl (by simp [look])
  | l :: L, c :: cs, u => by
    simp only [List.zip_cons_cons, look_cons]
    by_cases h : u = l
    · subst h
      exact .inr ⟨0, c, rfl, rfl, by simp⟩
    · rw [if_neg h]
      rcases look_zip2 L cs u with h1 | ⟨j, c', h1, h2, h3⟩
      · exact .inl h1
      · exact .inr ⟨j + 1, c', by simpa using h1, by simpa using h2, h3⟩

section
variable {P : Program} {C : Ctx} {Q : Go.Exit → St → Prop} {s : St}

/-- A cell of a row's end that is forgotten. -/
theorem SimM.toDead {m : Nat → MV} {a : Act} {w : World} (h : SimM C s m a w) (id : Nat) :
    SimM C { s with rows := s.rows.set id .dead } m a w := by
  have hlive : ∀ j, liveAt (s.rows.set id .dead) j → liveAt s.rows j := by
    intro j ⟨q, hq, hv⟩
    rw [List.getElem?_set] at hq
    split at hq
    · split at hq
      · cases hq; simp [Row.live] at hv
      · cases hq
    · exact ⟨q, hq, hv⟩
  have hG : ∀ f b, Gd C s.rows m w f b → Gd C (s.rows.set id .dead) m w f b ∧ w.heap[b]? = w.heap[b]? :=
    Gd.step (fun _ => False) (Nat.le_refl _) (fun _ _ _ => rfl) (fun _ hf => hf.elim) (fun b _ ⟨j, hl, hbk⟩ => ⟨j, hlive j hl, hbk⟩)
  exact {
    defs := h.defs
    size := h.size
    os := h.os
    tape := h.tape
    output := h.output
    hsz := h.hsz
    old := h.old
    bor := h.bor
    nbl := by simpa using h.nbl
    newb := fun j b hj hl hbk => h.newb j b hj (hlive j hl) hbk
    dist := fun i j b hi hj hbi hbj => h.dist i j b (hlive i hi) (hlive j hj) hbi hbj
    rows := fun j q hq => by
      change (s.rows.set id .dead)[j]? = some q at hq
      rw [List.getElem?_set] at hq
      split at hq
      · split at hq
        · cases hq; exact .dead _
        · cases hq
      · have := RowOK.mono (N' := (s.rows.set id .dead).length) (m' := m) hG (by simp) (fun _ _ => rfl) (h.rows j q hq) (fun _ _ _ => rfl)
        exact this
    env := fun t => (h.env t).mono (m' := m) hG (by simp) (fun _ _ => rfl) }

/-- A row that holds the values of slots. -/
theorem SimM.addGh {m : Nat → MV} {a : Act} {w : World} (h : SimM C s m a w) (us : List Value) (cs : List SV) (hl : us.length = cs.length)
    (hc : ∀ (j : Nat) (c : SV) (u : Value), cs[j]? = some c → us[j]? = some u → RS w (Gd C s.rows m w) m s.rows.length c u) :
    ∃ m', SimM C { s with rows := s.rows ++ [.gh us cs] } m' a w ∧ (∀ fr b, Gd C s.rows m w fr b → Gd C (s.rows ++ [.gh us cs]) m' w fr b ∧ w.heap[b]? = w.heap[b]?) ∧ ∀ id, id < s.rows.length → m' id = m id := by
  have hg : w.grownBy w none := ⟨rfl, rfl, rfl, Nat.le_refl _, fun _ _ _ => rfl⟩
  obtain ⟨h1, h2⟩ := h.addRow hg (.gh us cs) ⟨undef, fun _ => False⟩ (fun b hb => hb.elim) (fun hG => .gh _ us cs hl (fun j c u hcj hu => (hc j c u hcj hu).mono (N' := s.rows.length + 1) hG (by omega) (fun i hi => updM_ne _ _ (by omega))))
  exact ⟨_, h1, h2, fun i hi => updM_ne _ _ (by omega)⟩

theorem run_resG1 {m : Nat → MV} {a : Act} {w : World} (h : SimM C s m a w) {r : Nat × Option (Nat × Nat)} (hT : resT P r) (hok : resGOK s r = true) :
    ∃ v, (resM a.tmps (resVar r)).run P w = .ok v w ∧ RS w (Gd C s.rows m w) m s.rows.length (resG s r) v := by
  obtain ⟨t, _ | ⟨T, n⟩⟩ := r
  · exact ⟨_, rfl, h.env t⟩
  · obtain ⟨D, inf, hu, hD, hinf, hsz⟩ := hT
    simp only [resGOK] at hok
    split at hok
    · rename_i id hid
      split at hok
      · rename_i R cs hrow
        have hl := Nat.eq_of_beq_eq_true hok
        have hg : getO s.env (.tmp t) = .ptr id 0 0 0 := hid
        obtain ⟨b, cur, hv, _, hbk, hcl, hr, h1⟩ := h.var hg hrow
        have hv2 : a.tmps.getD t undef = .pointer (some ⟨b, 0, none⟩) := hv
        refine ⟨.agg cur, ?_, ?_⟩
        · have e := run_loadAt_mid (P := P) w b 0 T cur.toList D (fun j v hj => by
            rw [cell_of_row w b _ cur R (0, 0) hbk]; simpa using hj) hu hD (by rw [hinf]; simp [hsz, hcl, hl])
          simp only [resVar, resM, hv2]
          simpa [Instr.loadAt, Instr.sureAddr, asAddr] using e
        · simp only [resG, hid, hrow]
          split
          · rename_i f ps hcc
            obtain ⟨c1, c2⟩ := collectC_get hcc
            refine .pv _ _ _ (.agg ps cur (by rw [hcl, c1]) (fun j p hp => ?_) (fun j p u hp hu => ?_))
            · obtain ⟨g, h3, _⟩ := c2 j p hp
              have hlt : j < cur.size := by rw [hcl]; exact (List.getElem?_eq_some_iff.1 h3).1
              have hu := Array.getElem?_eq_getElem hlt
              exact (hr _ _ _ h3 hu).pv_inv.notAgg (h1 _ _ hu)
            · obtain ⟨g, h3, h4⟩ := c2 j p hp
              exact RP.flag (G := Gd C s.rows m w) (fun b hb => hb.weak) (hr _ _ _ h3 hu).pv_inv h4
          · exact .ag cs cur hcl hr h1
      · cases hok
    · cases hok

theorem run_resGA {m : Nat → MV} {a : Act} {w : World} (h : SimM C s m a w) {fn : Func} {rs : List (Nat × Option (Nat × Nat))} (hr : fn.results = (rs.map resVar).toArray) (hl : rs.length ≤ 5)
    (hT : ∀ r ∈ rs, resT P r) (hok : rs.all (resGOK s) = true) :
    ∃ us : Array Value, (results fn a.tmps).run P w = .ok (pack us) w ∧ us.size = rs.length ∧ ∀ (j : Nat) (r : Nat × Option (Nat × Nat)), rs[j]? = some r → RS w (Gd C s.rows m w) m s.rows.length (resG s r) (us.getD j undef) := by
  rw [results_eq, hr]
  rw [List.all_eq_true] at hok
  match rs, hl with
  | [], _ => exact ⟨#[], by simp [pack], rfl, fun j r hr => by simp at hr⟩
  | [r1], _ =>
    obtain ⟨v1, h1, k1⟩ := run_resG1 (P := P) h (hT r1 (by simp)) (hok r1 (by simp))
    refine ⟨#[v1], by simp [h1, pack], rfl, fun j r hr => ?_⟩
    match j, hr with
    | 0, hr => cases hr; exact k1
  | [r1, r2], _ =>
    obtain ⟨v1, h1, k1⟩ := run_resG1 (P := P) h (hT r1 (by simp)) (hok r1 (by simp))
    obtain ⟨v2, h2, k2⟩ := run_resG1 (P := P) h (hT r2 (by simp)) (hok r2 (by simp))
    refine ⟨#[v1, v2], by simp [h1, h2, pack], rfl, fun j r hr => ?_⟩
    match j, hr with
    | 0, hr => cases hr; exact k1
    | 1, hr => cases hr; exact k2
  | [r1, r2, r3], _ =>
    obtain ⟨v1, h1, k1⟩ := run_resG1 (P := P) h (hT r1 (by simp)) (hok r1 (by simp))
    obtain ⟨v2, h2, k2⟩ := run_resG1 (P := P) h (hT r2 (by simp)) (hok r2 (by simp))
    obtain ⟨v3, h3, k3⟩ := run_resG1 (P := P) h (hT r3 (by simp)) (hok r3 (by simp))
    refine ⟨#[v1, v2, v3], by simp [h1, h2, h3, pack], rfl, fun j r hr => ?_⟩
    match j, hr with
    | 0, hr => cases hr; exact k1
    | 1, hr => cases hr; exact k2
    | 2, hr => cases hr; exact k3
  | [r1, r2, r3, r4], _ =>
    obtain ⟨v1, h1, k1⟩ := run_resG1 (P := P) h (hT r1 (by simp)) (hok r1 (by simp))
    obtain ⟨v2, h2, k2⟩ := run_resG1 (P := P) h (hT r2 (by simp)) (hok r2 (by simp))
    obtain ⟨v3, h3, k3⟩ := run_resG1 (P := P) h (hT r3 (by simp)) (hok r3 (by simp))
    obtain ⟨v4, h4, k4⟩ := run_resG1 (P := P) h (hT r4 (by simp)) (hok r4 (by simp))
    refine ⟨#[v1, v2, v3, v4], by simp [h1, h2, h3, h4, pack], rfl, fun j r hr => ?_⟩
    match j, hr with
    | 0, hr => cases hr; exact k1
    | 1, hr => cases hr; exact k2
    | 2, hr => cases hr; exact k3
    | 3, hr => cases hr; exact k4
  | [r1, r2, r3, r4, r5], _ =>
    obtain ⟨v1, h1, k1⟩ := run_resG1 (P := P) h (hT r1 (by simp)) (hok r1 (by simp))
    obtain ⟨v2, h2, k2⟩ := run_resG1 (P := P) h (hT r2 (by simp)) (hok r2 (by simp))
    obtain ⟨v3, h3, k3⟩ := run_resG1 (P := P) h (hT r3 (by simp)) (hok r3 (by simp))
    obtain ⟨v4, h4, k4⟩ := run_resG1 (P := P) h (hT r4 (by simp)) (hok r4 (by simp))
    obtain ⟨v5, h5, k5⟩ := run_resG1 (P := P) h (hT r5 (by simp)) (hok r5 (by simp))
    refine ⟨#[v1, v2, v3, v4, v5], by simp [h1, h2, h3, h4, h5, pack], rfl, fun j r hr => ?_⟩
    match j, hr with
    | 0, hr => cases hr; exact k1
    | 1, hr => cases hr; exact k2
    | 2, hr => cases hr; exact k3
    | 3, hr => cases hr; exact k4
    | 4, hr => cases hr; exact k5

/-- The function's code in the call's place: the operation. -/
theorem ow_inline {t : Nat} {ty : TypeId} {pos : String} {af : Array Edge} {gd : Option (Nat × Bool)} {f : FuncId} {fn : Func} {xs : Array Operand} {Ts : Array TypeId} {args : List SV} {c : Code} {m : Nat → MV} {a : Act} {w : World}
    {K : Act → World → Prop} {Q' : Go.Exit → Act → World → Prop} (L : List Nat) (rs : List (Nat × Option (Nat × Nat))) (Kc : St → Prop) (hs : SimM C s m a w)
    (hf : P.funcs[f]? = some fn) (hnm : (fn.name == "runtime.NumGoroutine") = false) (hb : fn.body = some c) (ht : Nat.blt t s.n = true)
    (hr : fn.results = (rs.map resVar).toArray) (hl : rs.length ≤ 5) (hT : ∀ r ∈ rs, resT P r)
    (hargs : xs.toList.map (getO s.env) = args) (hn : Nat.ble args.length fn.ntmps = true)
    (h : ∀ us : List Value, VC P C c (inQ us s.rows.length L rs s.n t Kc) ⟨fn.ntmps, enumE 0 args, s.rows ++ [.gh us (L.map (look s.env))]⟩)
    (hK : ∀ s' a' w', Kc s' → Sim C s' a' w' → K a' w') :
    Oper.wp P ⟨some t, .call ⟨.value (.func f), xs, Ts⟩, ty, pos, af, gd⟩ a w K Q' := by
  unfold Oper.wp
  have hrc : (execOp a.eval ⟨some t, .call ⟨.value (.func f), xs, Ts⟩, ty, pos, af, gd⟩).run P w = .ok (.enter f (xs.map a.eval)) w := run_call (t := t) (ty := ty) (pos := pos) (af := af) hf hnm (by simp [hb]) (some t)
  rw [hrc, Oper.upon_enter]
  have hlen : args.length = xs.size := by rw [← hargs]; simp
  have hn := Nat.le_of_ble_eq_true hn
  let us : List Value := L.map fun t => a.tmps.getD t undef
  obtain ⟨m1, hs1, hG1, hm1⟩ := hs.addGh us (L.map (look s.env)) (by simp [us]) (fun j c u hc hu => by
    simp only [us, List.getElem?_map, Option.map_eq_some_iff] at hc hu
    obtain ⟨t1, ht1, rfl⟩ := hc
    obtain ⟨t2, ht2, rfl⟩ := hu
    rw [ht1] at ht2
    cases ht2
    exact hs.env t1)
  let vals := xs.map a.eval
  have hs2 : SimM C ⟨fn.ntmps, enumE 0 args, s.rows ++ [.gh us (L.map (look s.env))]⟩ m1 { tmps := vals ++ Array.replicate (fn.ntmps - vals.size) undef, defers := [] } w := by
    refine { hs1 with size := ?_, env := fun u => ?_, defs := rfl }
    · simp [vals]; omega
    · show RS _ _ _ _ (look (enumE 0 args) u) _
      rw [look_enumE]
      simp only [Nat.zero_le, if_true, Nat.sub_zero]
      rcases Nat.lt_or_ge u xs.size with hu | hu
      · have hx : args[u]? = some (getO s.env xs[u]) := by rw [← hargs]; simp [hu]
        rw [hx]
        simp only [Option.getD_some]
        have e2 : (vals ++ Array.replicate (fn.ntmps - vals.size) undef).getD u undef = a.eval xs[u] := by
          simp [Array.getD, vals, hu]
          intro hh; omega
        show RS w _ _ _ _ ((vals ++ Array.replicate (fn.ntmps - vals.size) undef).getD u undef)
        rw [e2]
        exact (hs.get xs[u]).mono hG1 (by simp) hm1
      · rw [List.getElem?_eq_none (by omega)]
        exact .any _
  have hcall : Calls P f vals w (fun e w' => ∃ (us' : Array Value) (s' : St) (a' : Act) (m' : Nat → MV) (cs' : List SV), e = .returned (pack us') ∧ us'.size = rs.length ∧ SimM C s' m' a' w' ∧ s'.rows[s.rows.length]? = some (.gh us cs') ∧
      (∀ (j : Nat) (r : Nat × Option (Nat × Nat)), rs[j]? = some r → RS w' (Gd C s'.rows m' w') m' s'.rows.length (resG s' r) (us'.getD j undef)) ∧
      Kc ⟨s.n, (t, packS (rs.map (resG s'))) :: L.zip cs', s'.rows.set s.rows.length .dead⟩) := by
    refine calls_of_wp hf hb ?_
    refine wp_mono (h us _ _ ⟨m1, hs2⟩) ?_
    rintro e a' w' ⟨s', ⟨m', hs'⟩, he, cs', hgh, hok, hkc⟩
    obtain ⟨us', hrun, hul, hus⟩ := run_resGA (P := P) hs' hr hl hT hok
    have key : ∃ v, (results fn a'.tmps).run P w' = .ok v w' ∧ (∃ (us' : Array Value) (s' : St) (a' : Act) (m' : Nat → MV) (cs' : List SV), Ending.returned v = .returned (pack us') ∧ us'.size = rs.length ∧ SimM C s' m' a' w' ∧ s'.rows[s.rows.length]? = some (.gh us cs') ∧
      (∀ (j : Nat) (r : Nat × Option (Nat × Nat)), rs[j]? = some r → RS w' (Gd C s'.rows m' w') m' s'.rows.length (resG s' r) (us'.getD j undef)) ∧
      Kc ⟨s.n, (t, packS (rs.map (resG s'))) :: L.zip cs', s'.rows.set s.rows.length .dead⟩) :=
      ⟨_, hrun, us', s', a', m', cs', rfl, hul, hs', hgh, hus, hkc⟩
    obtain ⟨v, hv1, hv2⟩ := key
    rcases he with rfl | rfl
    · exact ⟨hs'.defs, v, hv1, hv2⟩
    · exact ⟨hs'.defs, v, hv1, hv2⟩
  refine hcall.mono ?_
  rintro e w' ⟨us', s', a', m', cs', rfl, hul, hs', hgh, hus, hkc⟩
  refine hK _ _ _ hkc ⟨m', ?_⟩
  have hlt : s.rows.length < s'.rows.length := (List.getElem?_eq_some_iff.1 hgh).1
  have hrow := hs'.rows _ _ hgh
  have hd := hs'.toDead s.rows.length
  have hGd : ∀ f b, Gd C s'.rows m' w' f b → Gd C (s'.rows.set s.rows.length .dead) m' w' f b ∧ w'.heap[b]? = w'.heap[b]? :=
    Gd.step (fun _ => False) (Nat.le_refl _) (fun _ _ _ => rfl) (fun _ hf => hf.elim) (fun b _ ⟨j, ⟨q, hq, hv⟩, hbk⟩ => ⟨j, by
      rw [List.getElem?_set] at hq
      split at hq
      · cases hq; simp [Row.live] at hv
      · exact ⟨q, hq, hv⟩, hbk⟩)
  have hs3 : SimM C ⟨s.n, L.zip cs', s'.rows.set s.rows.length .dead⟩ m' a w' := {
    defs := hs.defs
    size := hs.size
    os := hd.os
    tape := hd.tape
    output := hd.output
    hsz := hd.hsz
    old := hd.old
    bor := hd.bor
    nbl := hd.nbl
    newb := hd.newb
    dist := hd.dist
    rows := hd.rows
    env := fun u => by
      show RS w' _ _ _ (look (L.zip cs') u) _
      rcases look_zip2 L cs' u with h1 | ⟨j, c', h1, h2, h3⟩
      · rw [h1]; exact .any _
      · rw [h3]
        generalize hmv : m' s.rows.length = mv at hrow
        cases hrow with
        | gh _ _ _ hl9 h9 =>
          have hu : us[j]? = some (a.tmps.getD u undef) := by simp [us, h1]
          exact (h9 j c' _ h2 hu).mono hGd (by simp) (fun _ _ => rfl) }
  refine hs3.put (blt_lt ht) ?_
  have hres : ∀ (j : Nat) (r : Nat × Option (Nat × Nat)), rs[j]? = some r → RS w' (Gd C (s'.rows.set s.rows.length .dead) m' w') m' (s'.rows.set s.rows.length .dead).length (resG s' r) (us'.getD j undef) := fun j r hr => (hus j r hr).mono hGd (by simp) (fun _ _ => rfl)
  match rs, hul, hres with
  | [], hul, _ =>
    have : us' = #[] := Array.eq_empty_of_size_eq_zero (by simpa using hul)
    subst this
    exact .tup _ _ rfl (fun j c v hc => by simp at hc)
  | [r], hul, hres =>
    have h1 : us'.size = 1 := by simpa using hul
    have := hres 0 r rfl
    simp only [packS, pack, h1, dif_pos, List.map_cons, List.map_nil]
    simpa [Array.getD, h1] using this
  | r1 :: r2 :: rs, hul, hres =>
    have h1 : us'.size ≠ 1 := by rw [hul]; simp
    simp only [packS, pack, h1, dif_neg, not_false_iff, List.map_cons]
    refine .tup _ _ (by rw [hul]; simp) (fun j c v hc hv => ?_)
    have hc2 : ((r1 :: r2 :: rs).map (resG s'))[j]? = some c := by simpa using hc
    simp only [List.getElem?_map, Option.map_eq_some_iff] at hc2
    obtain ⟨c', hc', rfl⟩ := hc2
    have := hres j c' hc'
    have e : us'.getD j undef = v := by
      rw [Array.getElem?_eq_some_iff] at hv
      obtain ⟨hlt, e⟩ := hv
      simp [Array.getD, hlt, e]
    rw [e] at this
    exact this

/-- The function's code in the call's place. -/
theorem vo_inline {ops : Array Oper} {rest : List Oper} {t : Nat} {ty : TypeId} {pos : String} {af : Array Edge} {f : FuncId} {fn : Func} {xs : Array Operand} {Ts : Array TypeId} {args : List SV} {c : Code} (L : List Nat) (rs : List (Nat × Option (Nat × Nat)))
    (hf : P.funcs[f]? = some fn) (hnm : (fn.name == "runtime.NumGoroutine") = false) (hb : fn.body = some c) (ht : Nat.blt t s.n = true)
    (hr : fn.results = (rs.map resVar).toArray) (hl : rs.length ≤ 5) (hT : ∀ r ∈ rs, resT P r)
    (hargs : xs.toList.map (getO s.env) = args) (hn : Nat.ble args.length fn.ntmps = true)
    (h : ∀ us : List Value, VC P C c (inQ us s.rows.length L rs s.n t (VO P C ops rest Q)) ⟨fn.ntmps, enumE 0 args, s.rows ++ [.gh us (L.map (look s.env))]⟩) :
    VO P C ops (⟨some t, .call ⟨.value (.func f), xs, Ts⟩, ty, pos, af, none⟩ :: rest) Q s := by
  intro a w ⟨m, hs⟩
  refine wpList_plain rfl fun K hK => ?_
  exact ow_inline L rs (VO P C ops rest Q) hs hf hnm hb ht hr hl hT hargs hn h (fun s' a' w' hk hs' => hK _ _ (hk _ _ hs'))

end
end Go.Vl

/- '!=' on structs of two numbers. -/
namespace Go.Vl
set_option linter.unusedVariables false
set_option linter.unusedSimpArgs false
open Go.RowKit

section
variable {P : Program} {C : Ctx} {Q : Go.Exit → St → Prop} {s : St} {ops : Array Oper} {rest : List Oper} {t : Nat} {ty : TypeId} {pos : String} {af : Array Edge}

end
section
variable {P : Program}
end
end Go.Vl

/- What yields the same in every world may be taken first, whatever else comes. -/
namespace Go.Vl
set_option linter.unusedVariables false
set_option linter.unusedSimpArgs false
open Go.RowKit

section
variable {P : Program} {ops : Array Oper} {Q : Go.Exit → Act → World → Prop}

def yields0 (P : Program) (ops : Array Oper) (o : Oper) (v : Value) (a : Act) : Prop :=
  (Region.wanted o (yielded ops a.tmps) = true ∧ ∀ w, (execOp a.eval o).run P w = .ok (.value v) w) ∨ (Region.wanted o (yielded ops a.tmps) = false ∧ v = undef)

theorem yields0.step {o : Oper} {v : Value} {a a' : Act} (h : yields0 P ops o v a) (he : execOp a'.eval o = execOp a.eval o)
    (hw : Region.wanted o (yielded ops a'.tmps) = Region.wanted o (yielded ops a.tmps)) : yields0 P ops o v a' := by
  unfold yields0 at *
  rw [he, hw]
  exact h

theorem yields0.op {i : Nat} {o : Oper} {v : Value} {a : Act} {w : World} (hi : ops[i]? = some o) (hy : yields0 P ops o v a) {K : Act → World → Prop} (h : K (a.put o.dst v) w) : wpOp P ops Q i K a w := by
  unfold wpOp
  simp only [hi]
  rcases hy with ⟨hw, hv⟩ | ⟨hw, rfl⟩
  · simp only [hw, if_true, Oper.wp, hv w, Oper.upon]; exact .inl h
  · simp only [hw, Bool.false_eq_true, if_false]; exact h

theorem op_before0 {j : Nat} {oi oj : Oper} {v : Value} (hj : ops[j]? = some oj) (hap : oi.apart ops oj = true) (hsi : ∀ cs b, oi.op ≠ .select cs b) (hsj : ∀ cs b, oj.op ≠ .select cs b)
    (hQ : ∀ c a w, ¬ Q (.panic c) a w) {K : Act → World → Prop} {a : Act} {w : World} (hy : yields0 P ops oi v a) (h : wpOp P ops Q j K (a.put oi.dst v) w) :
    wpOp P ops Q j (fun a' w' => yields0 P ops oi v a' ∧ K (a'.put oi.dst v) w') a w := by
  obtain ⟨h1, h2, h3⟩ := Oper.apart_spec hap
  have keep : ∀ (u : Value), yields0 P ops oi v (a.put oj.dst u) := fun u => hy.step (execOp_put oi hsi a oj.dst u h3) (wanted_put oi a oj.dst u h3)
  have fin : ∀ (u : Value) (w' : World), K ((a.put oi.dst v).put oj.dst u) w' → yields0 P ops oi v (a.put oj.dst u) ∧ K ((a.put oj.dst u).put oi.dst v) w' := by
    intro u w' hk
    exact ⟨keep u, by rw [← Act.put_comm a v u h2]; exact hk⟩
  unfold wpOp at *
  simp only [hj] at *
  rw [wanted_put oj a oi.dst v h1] at h
  by_cases hw : Region.wanted oj (yielded ops a.tmps) = true
  · rw [if_pos hw] at h ⊢
    rcases h with h | ⟨hasks, hlets⟩
    · left
      unfold Oper.wp at *
      rw [execOp_put oj hsj a oi.dst v h1] at h
      generalize (execOp a.eval oj).run P w = r at *
      cases r with
      | ok n w' =>
        cases n with
        | value u => exact fin u w' h
        | skip => exact fin undef w' h
        | defer d =>
          simp only [Oper.upon] at h ⊢
          refine ⟨?_, by rw [← Act.put_comm _ v undef h2, ← Act.put_defers]; exact h⟩
          have hy1 : yields0 P ops oi v { a with defers := d :: a.defers } := hy.step rfl rfl
          exact hy1.step (execOp_put oi hsi _ oj.dst undef h3) (wanted_put oi _ oj.dst undef h3)
        | enter f args =>
          simp only [Oper.upon] at h ⊢
          refine h.mono fun e w'' he => ?_
          cases e with
          | returned u => exact fin u w'' he
          | panicked c => exact (hQ _ _ _ he).elim
          | outgrown => exact he
        | row row args => exact Rows.mono h fun u w'' he => fin u w'' he
        | _ => exact h
      | halt x w' =>
        cases x <;> simp only [Oper.upon] at h ⊢
        exact (hQ _ _ _ h).elim
    · right
      refine ⟨?_, hlets⟩
      unfold Oper.asks at *
      rw [execOp_put oj hsj a oi.dst v h1] at hasks
      exact hasks
  · rw [if_neg hw] at h ⊢
    exact fin undef w h

theorem anyL_first0 {late : List Nat} {i : Nat} {oi : Oper} {v : Value} (hi : ops[i]? = some oi) (hsel : ∀ (j : Nat) (o : Oper) cs b, ops[j]? = some o → o.op ≠ .select cs b) (hQ : ∀ c a w, ¬ Q (.panic c) a w) :
    ∀ (n : Nat) (listed : Array Bool) (a : Act) (w : World),
      (∀ j oj, ops[j]? = some oj → j ≠ i → listed.getD j true = false → (∀ e ∈ oj.after, Region.binds .any e = true → e.on ≠ i) → oi.apart ops oj = true) →
      i ∈ Region.ready .any ops listed → yields0 P ops oi v a → anyL late P ops Q n (listed.setIfInBounds i true) (a.put oi.dst v) w → anyL late P ops Q (n + 1) listed a w := by
  intro n
  induction n with
  | zero =>
    intro listed a w _ hr hy H
    refine ⟨fun h => (by rw [h] at hr; cases hr), fun j hj => ?_⟩
    by_cases hji : j = i
    · subst hji; exact hy.op hi ⟨.inl (ExtW.refl w), H⟩
    · have := ready_mono hj hji
      rw [H.1] at this
      cases this
  | succ n ih =>
    intro listed a w hfree hr hy H
    refine ⟨fun h => (by rw [h] at hr; cases hr), fun j hj => ?_⟩
    by_cases hji : j = i
    · subst hji; exact hy.op hi ⟨.inl (ExtW.refl w), H⟩
    · have g1 := H.2 j (ready_mono hj hji)
      obtain ⟨hjun, oj, hoj, hall⟩ := mem_ready.1 hj
      have hnot : ∀ e ∈ oj.after, Region.binds .any e = true → e.on ≠ i := by
        intro e he hb heq
        have l1 := hall e he hb
        have l0 := (mem_ready.1 hr).1
        rw [heq] at l1
        rcases Nat.lt_or_ge i listed.size with h' | h'
        · simp [h'] at l0 l1
          rw [l0] at l1
          cases l1
        · simp [Array.getElem?_eq_none h'] at l1
      have g2 := op_before0 hoj (hfree j oj hoj hji hjun hnot) (fun cs b => hsel i oi cs b hi) (fun cs b => hsel j oj cs b hoj) hQ hy g1
      have hfree' : ∀ k ok, ops[k]? = some ok → k ≠ i → (listed.setIfInBounds j true).getD k true = false → (∀ e ∈ ok.after, Region.binds .any e = true → e.on ≠ i) → oi.apart ops ok = true := by
        intro k ok hk hki hun hno
        refine hfree k ok hk hki ?_ hno
        by_cases hjk : j = k
        · subst hjk; exact hjun
        · rw [getD_set_ne true hjk] at hun; exact hun
      refine wpOp_mono (fun a' w' g3 => ⟨g3.2.1, ih (listed.setIfInBounds j true) a' w' hfree' (ready_mono hr (Ne.symm hji)) g3.1 ?_⟩) g2
      rw [Array.setIfInBounds_comm _ _ hji]
      exact g3.2.2
end

/-- The operation hands back a value that no world changes. -/
def Lt0 (P : Program) (C : Ctx) (s : St) (o : Oper) (sv : SV) : Prop :=
  ∀ m a w, SimM C s m a w → ∃ v, (∀ w', (execOp a.eval o).run P w' = .ok (.value v) w') ∧ RS w (Gd C s.rows m w) m s.rows.length sv v

section
variable {late : List Nat} {P : Program} {C : Ctx} {ops : Array Oper} {K : St → Prop} {s : St} {n : Nat} {listed : Array Bool} {t : Nat} {ty : TypeId} {pos : String} {af : Array Edge}

theorem vl_light0 (i : Nat) {o : Oper} {t : Nat} {sv : SV} (hi : ops[i]? = some o) (hd : o.dst = some t) (ht : Nat.blt t s.n = true) (hr : (Region.ready .any ops listed).contains i = true) (hns : Region.noSelect ops = true)
    (hf : Region.free .any ops listed i = true) (hw : Wnt C ops s o true) (hl : Lt0 P C s { o with guard := none } sv) (next : VL late P C ops n (listed.setIfInBounds i true) K (s.put t sv)) : VL late P C ops (n + 1) listed K s := by
  intro m a w hs
  obtain ⟨v, hrun, hv⟩ := hl m a w hs
  refine anyL_first0 hi (Region.noSelect_spec hns) post0_panic n listed a w (Region.free_spec hi hf) (by simpa using hr) (.inl ⟨hw m a w hs, hrun⟩) ?_
  rw [hd]
  exact next m _ _ (hs.put (blt_lt ht) hv)
end
end Go.Vl

/- A row that holds numbers alone points nowhere. -/
namespace Go.Vl
set_option linter.unusedVariables false
set_option linter.unusedSimpArgs false
open Go.RowKit

section
variable {P : Program} {C : Ctx} {Q : Go.Exit → St → Prop} {s : St} {ops : Array Oper}

end
end Go.Vl

/- Statements at which two orders of evaluation are known: what holds in whatever order holds in both. -/
namespace Go.Vl
set_option linter.unusedVariables false
set_option linter.unusedSimpArgs false
open Go.RowKit

section
variable {P : Program} {ops : Array Oper} {Q : Go.Exit → Act → World → Prop}

theorem binds_sub {md : Region.Mode} {e : Edge} (h : Region.binds .any e = true) : Region.binds md e = true := by
  unfold Region.binds at *
  split at h <;> simp_all

theorem ready_sub {md : Region.Mode} {listed : Array Bool} {i : Nat} (h : i ∈ Region.ready md ops listed) : i ∈ Region.ready .any ops listed := by
  obtain ⟨h1, o, ho, h2⟩ := mem_ready.1 h
  exact mem_ready.2 ⟨h1, o, ho, fun e he hb => h2 e he (binds_sub hb)⟩

/-- An order in which all can come. -/
def orderB (md : Region.Mode) (ops : Array Oper) : List Nat → List Nat → Bool
  | seen, [] => (List.range ops.size).all fun j => seen.contains j
  | seen, i :: r => (match ops[i]? with
    | some o => o.after.all fun e => !Region.binds md e || seen.contains e.on
    | none => true) && orderB md ops (i :: seen) r

theorem order_spec {md : Region.Mode} {listed : Array Bool} (hsz : listed.size = ops.size) (hr : Region.ready md ops listed = []) : ∀ (perm seen : List Nat), (∀ j, seen.contains j = true → j < ops.size → listed.getD j false = true) → (∀ j, seen.contains j = true → j < ops.size) → (∀ i ∈ perm, i < ops.size) → orderB md ops seen perm = true → ∀ j, j < ops.size → listed.getD j false = true
  | [], seen, hs, _, _, h, j, hj => by
    simp only [orderB, List.all_eq_true, List.mem_range] at h
    exact hs j (h j hj) hj
  | i :: r, seen, hs, hlt, hp, h, j, hj => by
    simp only [orderB, Bool.and_eq_true] at h
    have hi := hp i List.mem_cons_self
    have hl : listed.getD i false = true := by
      have ho : ops[i]? = some ops[i] := Array.getElem?_eq_getElem hi
      rw [ho] at h
      have hi2 : i < listed.size := by omega
      by_cases hli : listed[i] = true
      · simp [Array.getD, hi2, hli]
      · exfalso
        have hm : i ∈ Region.ready md ops listed := mem_ready.2 ⟨by simp [Array.getD, hi2]; simpa using hli, _, ho, fun e he hb => by
          have h1 := Array.all_eq_true_iff_forall_mem.1 h.1 e he
          rw [hb] at h1
          have h2 : seen.contains e.on = true := by simpa using h1
          exact hs _ h2 (hlt _ h2)⟩
        rw [hr] at hm
        cases hm
    refine order_spec hsz hr r (i :: seen) (fun k hk hk2 => ?_) (fun k hk => ?_) (fun k hk => hp k (List.mem_cons_of_mem _ hk)) h.2 j hj
    · by_cases e : k = i
      · subst e; exact hl
      · refine hs k ?_ hk2
        simp only [List.contains_cons, Bool.or_eq_true, beq_iff_eq, e, false_or] at hk
        exact hk
    · by_cases e : k = i
      · subst e; exact hi
      · refine hlt k ?_
        simp only [List.contains_cons, Bool.or_eq_true, beq_iff_eq, e, false_or] at hk
        exact hk

theorem wpAny_md {md : Region.Mode} (H : ∀ listed : Array Bool, listed.size = ops.size → Region.ready md ops listed = [] → Region.ready .any ops listed = []) :
    ∀ (n : Nat) (listed : Array Bool) (a : Act) (w : World), listed.size = ops.size → wpAny P .any ops Q n listed a w → wpAny P md ops Q n listed a w
  | 0, listed, a, w, _, h => by
    refine ⟨?_, h.2⟩
    rw [List.eq_nil_iff_forall_not_mem]
    intro i hi
    have := ready_sub hi
    rw [h.1] at this
    cases this
  | n + 1, listed, a, w, hs, h => ⟨fun h0 => h.1 (H listed hs h0), fun i hi => wpOp_mono (fun a' w' h' => wpAny_md H n _ a' w' (by simpa using hs) h') (h.2 i (ready_sub hi))⟩

theorem order_any {md : Region.Mode} (perm : List Nat) (hp : perm.all (fun i => Nat.blt i ops.size) = true) (h : orderB md ops [] perm = true) (listed : Array Bool) (hsz : listed.size = ops.size) (hr : Region.ready md ops listed = []) : Region.ready .any ops listed = [] := by
  rw [List.all_eq_true] at hp
  have hall := order_spec hsz hr perm [] (fun j hj => by simp at hj) (fun j hj => by simp at hj) (fun i hi => blt_lt (hp i hi)) h
  rw [List.eq_nil_iff_forall_not_mem]
  intro i hi
  obtain ⟨h1, o, ho, _⟩ := mem_ready.1 hi
  have hi2 := (Array.getElem?_eq_some_iff.1 ho).1
  have := hall i hi2
  have hi3 : i < listed.size := by omega
  simp [Array.getD, hi3] at h1 this
  rw [h1] at this
  cases this
end

theorem vc_drawLD (late pt pg : List Nat) {P : Program} {C : Ctx} {ops : Array Oper} {s : St} {id : Nat} {Q : Go.Exit → St → Prop} (h1 : pt.all (fun i => Nat.blt i ops.size) = true) (h2 : orderB .text ops [] pt = true) (h3 : pg.all (fun i => Nat.blt i ops.size) = true) (h4 : orderB .gc ops [] pg = true)
    (h : VL late P C ops ops.size (Array.replicate ops.size false) (Q .normal) s) : VC P C (.region id ops true) Q s := by
  intro a w ⟨m, hs⟩
  refine wp_region_draw fun t => ?_
  have hany := any_of_anyL _ _ _ _ (h m a _ (hs.grow (w' := { w with drawn := w.drawn + 1 }) (ExtW.refl w) rfl rfl rfl))
  have hfin : ∀ e a' w', post0 C (Q .normal) e a' w' → post C Q e a' w' := by
    rintro e a' w' ⟨rfl, s', hs', hk⟩
    exact ⟨s', hs', hk⟩
  unfold Region.schedule
  split
  · exact wpOps_monoQ hfin _ _ _ (wpAny_sound ops.size t _ a _ hany)
  · split
    · exact wpOps_monoQ hfin _ _ _ (wpAny_sound ops.size _ _ a _ (wpAny_md (order_any pt h1 h2) _ _ _ _ (by simp) hany))
    · exact wpOps_monoQ hfin _ _ _ (wpAny_sound ops.size _ _ a _ (wpAny_md (order_any pg h3 h4) _ _ _ _ (by simp) hany))
end Go.Vl

/- Elements of several cells in a row of the call's own: one cell of them, or a part that is a struct, is read. -/
namespace Go.Vl
set_option linter.unusedVariables false
set_option linter.unusedSimpArgs false
open Go.RowKit

section
variable {P : Program} {C : Ctx} {Q : Go.Exit → St → Prop} {s : St} {ops : Array Oper} {rest : List Oper} {t : Nat} {ty : TypeId} {pos : String} {af : Array Edge}

end
end Go.Vl

/- A row takes another one in and may move: 'append' of a slice that is the program's own to a row whose slices are its own. -/
namespace Go.Vl
set_option linter.unusedVariables false
set_option linter.unusedSimpArgs false
open Go.RowKit

end Go.Vl

/- Rows whose slices are their own: a slice literal of one such slice, and 'append'. -/
namespace Go.Vl
set_option linter.unusedVariables false
set_option linter.unusedSimpArgs false
open Go.RowKit

section
variable {P : Program} {C : Ctx} {Q : Go.Exit → St → Prop} {s : St} {ops : Array Oper} {rest : List Oper} {t : Nat} {ty : TypeId} {pos : String} {af : Array Edge}

end
end Go.Vl

/- A row whose slices are its own becomes a row of slices that are read alone. -/
namespace Go.Vl
set_option linter.unusedVariables false
set_option linter.unusedSimpArgs false
open Go.RowKit
section
variable {P : Program} {C : Ctx} {Q : Go.Exit → St → Prop} {s : St} {ops : Array Oper}

theorem SimM.treeown {m : Nat → MV} {a : Act} {w : World} (h : SimM C s m a w) (id : Nat) (hnb : C.nb ≤ id) {el e : Nat} {nl : Option Bool} {xs : List PV} (hrow : s.rows[id]? = some (.tree el e nl none xs)) :
    SimM C ⟨s.n, s.env, s.rows.set id (.own el e nl false xs)⟩ (updM m id (.of (m id).v)) a w := by
  have hidl : id < s.rows.length := (List.getElem?_eq_some_iff.1 hrow).1
  have hid : liveAt s.rows id := ⟨_, hrow, rfl⟩
  have hlv : ∀ j, liveAt (s.rows.set id (.own el e nl false xs)) j → liveAt s.rows j := by
    intro j ⟨q, hq, hv⟩
    rw [List.getElem?_set] at hq
    split at hq
    · rename_i e; subst e; exact hid
    · exact ⟨q, hq, hv⟩
  have hblk : ∀ b, blk (m id).v = some b → (m id).S b := by
    have := h.rows id _ hrow
    generalize m id = v at *
    cases this with
    | tree mv t e nl h xs vals Sf hown h1 h2 hw hr hd hn hz hS hkn => exact fun b hb => (hS b).2 (.inl hb)
  have hsub : ∀ j b, (updM m id (.of (m id).v) j).S b → (m j).S b := by
    intro j b hb
    by_cases e : j = id
    · subst e; rw [updM_same] at hb; exact hblk b hb
    · rwa [updM_ne _ _ e] at hb
  have hv : ∀ j, (updM m id (.of (m id).v) j).v = (m j).v := by
    intro j
    by_cases e : j = id
    · subst e; rw [updM_same]; rfl
    · rw [updM_ne _ _ e]
  have hG : ∀ f b, Gd C s.rows m w f b → Gd C (s.rows.set id (.own el e nl false xs)) (updM m id (.of (m id).v)) w f b ∧ w.heap[b]? = w.heap[b]? := fun f b hb =>
    Gd.step (fun _ => False) (Nat.le_refl _) (fun _ _ _ => rfl) (fun _ hf => hf.elim) (fun b _ ⟨j, hl, hbk⟩ => ⟨j, hlv j hl, hsub j b hbk⟩) f b hb
  exact {
    defs := h.defs
    size := h.size
    os := h.os
    tape := h.tape
    output := h.output
    hsz := h.hsz
    old := h.old
    bor := fun j hj => by rw [updM_ne _ _ (by omega)]; exact h.bor j hj
    nbl := by have := h.nbl; simp; omega
    newb := fun j b hj hl hb => h.newb j b hj (hlv j hl) (hsub j b hb)
    dist := fun i j b hi hj hbi hbj => h.dist i j b (hlv i hi) (hlv j hj) (hsub i b hbi) (hsub j b hbj)
    rows := fun j q hq => by
      change (s.rows.set id (.own el e nl false xs))[j]? = some q at hq
      rw [List.getElem?_set] at hq
      split at hq
      · rename_i e0
        subst e0
        simp [hidl] at hq
        subst hq
        rw [updM_same]
        have hR := h.rows id _ hrow
        have hTP := TP.of_tree hR
        have hlt : ∀ b, (m id).S b → b < w.heap.size := TP.lt hTP
        have hnewb := fun b => h.newb id b hnb hid
        have hdist := h.dist
        generalize hmv : m id = v at *
        cases hR with
        | tree mv t e nl hh xs vals Sf hown h1 h2 hw hr hd hn hz hS hkn =>
          refine .own v.v el e nl false xs vals hown h1 h2 hw (fun i x j c hx hc => ?_)
          have hcl : c ∈ x.cells := List.mem_of_getElem? hc
          have hil : i < xs.length := (List.getElem?_eq_some_iff.1 hx).1
          have hjl : j < e := by
            have h9 := (List.getElem?_eq_some_iff.1 hc).1
            rwa [(hw i x hx).1] at h9
          have hvl : vals.length = xs.length * e := hown.1
          have hq : i * e + j < vals.length := by
            rw [hvl]
            calc i * e + j < i * e + e := by omega
              _ = (i + 1) * e := by rw [Nat.succ_mul]
              _ ≤ xs.length * e := Nat.mul_le_mul_right _ hil
          refine ⟨vals[i * e + j], List.getElem?_eq_getElem hq, ?_⟩
          refine ((hr i x j c _ hx hc (List.getElem?_eq_getElem hq)).tp).rp fun b hb => ?_
          have hSb : v.S b := (hS b).2 (.inr ⟨_, hb⟩)
          refine ⟨hlt b hSb, fun ⟨k, hl, hbk⟩ => ?_, fun _ => .inr (hnewb b hSb), fun h => by cases h⟩
          have hk : k = id := by
            have h5 := hsub k b hbk
            exact hdist k id b (hlv k hl) hid h5 (by rw [hmv]; exact hSb)
          subst hk
          rw [updM_same] at hbk
          exact hn _ _ hb hbk
      · rename_i e0
        rw [updM_ne _ _ (Ne.symm e0)]
        simpa using (h.rows j q hq).monoV hG (Nat.le_refl _) (fun j _ => hv j) (fun _ _ _ => rfl)
    env := fun t => by simpa using (h.env t).monoV hG (Nat.le_refl _) (fun j _ => hv j) }

theorem vo_treeown {l : List Oper} (id : Nat) (hnb : C.nb ≤ id) {el e : Nat} {nl : Option Bool} {xs : List PV} (hrow : s.rows[id]? = some (.tree el e nl none xs))
    (next : VO P C ops l Q ⟨s.n, s.env, s.rows.set id (.own el e nl false xs)⟩) : VO P C ops l Q s := fun a w ⟨m, hs⟩ => next a w ⟨_, hs.treeown id hnb hrow⟩
end
end Go.Vl

/- Structs whose cells are rows of the call's own: built, boxed, read, written. -/
namespace Go.Vl
set_option linter.unusedVariables false
set_option linter.unusedSimpArgs false
open Go.RowKit

def cellsG : SV → Option (List SV)
  | .ag ys => some ys
  | .pv f p => some (p.cells.map fun c => .pv (f || c.scal) c)
  | .ref id => some [.ref id]
  | .ptr id e i o => some [.ptr id e i o]
  | _ => none

def okG (rows : List Row) : SV → Bool
  | .ref id => match rows[id]? with
    | some r => r.live
    | none => false
  | _ => true

section
variable {P : Program} {C : Ctx} {Q : Go.Exit → St → Prop} {s : St}
variable {ops : Array Oper} {rest : List Oper} {t : Nat} {ty : TypeId} {pos : String} {af : Array Edge}

theorem row_one {w : World} {G : Bool → Nat → Prop} {m : Nat → MV} {N : Nat} {mv : MV} {r : Row} (h : RowOK w G m N mv r) (hl : r.live = true) : mv.v.oneCell' = true := by
  cases h with
  | dead => cases hl
  | gh => cases hl
  | own v t e nl fr xs vs hown => rcases hown.2 with ⟨rfl, _⟩ | ⟨g, cap, cur, rfl, _⟩ <;> rfl
  | var => rfl
  | mp => rfl
  | tree mv t e nl h xs vals Sf hown => rcases hown.2 with ⟨h, _⟩ | ⟨g, cap, cur, h, _⟩ <;> rw [h] <;> rfl

theorem cells_one {v : Value} (h : v.oneCell' = true) : v.cells = #[v] := by cases v <;> simp_all [Value.cells, Value.oneCell']

theorem SimM.cellsG {m : Nat → MV} {a : Act} {w : World} (h : SimM C s m a w) {x : Operand} {ys : List SV} (hy : cellsG (getO s.env x) = some ys) (hok : okG s.rows (getO s.env x) = true) :
    (a.eval x).cells.size = ys.length ∧ (∀ (j : Nat) (c : SV) (u : Value), ys[j]? = some c → (a.eval x).cells[j]? = some u → RS w (Gd C s.rows m w) m s.rows.length c u) ∧
      (∀ (j : Nat) (u : Value), (a.eval x).cells[j]? = some u → u.oneCell' = true) := by
  have hv := h.get x
  have one : ∀ (sv : SV) (v : Value), RS w (Gd C s.rows m w) m s.rows.length sv v → v.oneCell' = true → ys = [sv] →
      v.cells.size = ys.length ∧ (∀ (j : Nat) (c : SV) (u : Value), ys[j]? = some c → v.cells[j]? = some u → RS w (Gd C s.rows m w) m s.rows.length c u) ∧ (∀ (j : Nat) (u : Value), v.cells[j]? = some u → u.oneCell' = true) := by
    intro sv v hr h1 e
    subst e
    rw [cells_one h1]
    refine ⟨rfl, fun j c u hc hu => ?_, fun j u hu => ?_⟩
    · match j, hc, hu with
      | 0, hc, hu => simp at hc hu; subst hc; subst hu; exact hr
    · match j, hu with
      | 0, hu => simp at hu; subst hu; exact h1
  generalize getO s.env x = sv at *
  generalize a.eval x = v at *
  cases hv with
  | any => cases hy
  | val => cases hy
  | und => cases hy
  | adr => cases hy
  | tup => cases hy
  | sub => cases hy
  | clo => cases hy
  | ag vs us hl h9 h1 => cases hy; exact ⟨hl, h9, h1⟩
  | ref id hid =>
    simp only [Vl.cellsG, Option.some.injEq] at hy
    simp only [okG] at hok
    split at hok
    · rename_i r hr
      exact one _ _ (.ref id hid) (row_one (h.rows id r hr) hok) hy.symm
    · cases hok
  | ptr id e i o b hid hb =>
    simp only [Vl.cellsG, Option.some.injEq] at hy
    exact one _ _ (.ptr id e i o b hid hb) rfl hy.symm
  | pv fr p v hp =>
    simp only [Vl.cellsG, Option.some.injEq] at hy
    subst hy
    have hc := hp.cells
    refine ⟨by simpa using hc.1, fun j c u hcj hu => ?_, fun j u hu => ?_⟩
    · simp only [List.getElem?_map, Option.map_eq_some_iff] at hcj
      obtain ⟨c', hc', rfl⟩ := hcj
      obtain ⟨u', hu', hp'⟩ := hc.2 j c' hc'
      rw [hu] at hu'
      cases hu'
      cases hsc : c'.scal with
      | true => simp only [Bool.or_true]; exact .pv _ _ _ (hp'.scal_any hsc)
      | false => simp only [Bool.or_false]; exact .pv _ _ _ hp'
    · have hj : j < p.cells.length := by rw [← hc.1]; exact (Array.getElem?_eq_some_iff.1 hu).1
      obtain ⟨u', hu', hp'⟩ := hc.2 j _ (List.getElem?_eq_getElem hj)
      rw [hu] at hu'
      cases hu'
      refine hp'.oneCell ?_
      cases hp with
      | agg cs vs hl h1 h9 => exact h1 j _ (List.getElem?_eq_getElem hj)
      | _ => simp only [PV.cells] at hj ⊢; have : j = 0 := by simpa using hj
             subst this; rfl

/-- A struct is read from a variable. -/
theorem lt_load_varG {x : Operand} {T id e i o R n : Nat} {cs : List SV} {D : TypeDesc} {inf : TypeInfo} (hx : getO s.env x = .ptr id e i o) (hrow : s.rows[id]? = some (.var R cs))
    (hT : P.underlying T = some D) (hD : D.isRow = true) (hinf : P.info? T = some inf) (hsz : inf.size = n) (hle : Nat.ble (i * e + o + n) cs.length = true) :
    Lt P C s ⟨some t, .load T x, ty, pos, af, none⟩ (.ag ((cs.drop (i * e + o)).take n)) := by
  intro m a w hs
  have hle := Nat.le_of_ble_eq_true hle
  obtain ⟨b, cur, hv, _, hbk, hl, hr, h1⟩ := hs.var hx hrow
  have hget : ∀ j, ((cur.toList.drop (i * e + o)).take n)[j]? = if j < n then cur[i * e + o + j]? else none := by
    intro j
    rw [List.getElem?_take]
    split
    · rw [List.getElem?_drop]; simp
    · rfl
  refine ⟨.agg ((cur.toList.drop (i * e + o)).take n).toArray, fun w' hw' => ?_, ?_⟩
  · have := run_loadAt_mid (P := P) w' b (i * e + o) T ((cur.toList.drop (i * e + o)).take n) D (fun j v hj => by
      rw [hget] at hj
      split at hj
      · exact hw'.cell (by rw [cell_of_row w b _ cur R (0, 0) hbk]; exact hj)
      · cases hj) hT hD (by rw [hinf]; simp [hsz]; omega)
    simp [execOp, hv, this]
  · refine .ag _ _ (by simp; omega) (fun j c u hc hu => ?_) (fun j u hu => ?_)
    · have hu : ((cur.toList.drop (i * e + o)).take n)[j]? = some u := by simpa using hu
      rw [hget] at hu
      rw [List.getElem?_take, List.getElem?_drop] at hc
      split at hu
      · rename_i hj; rw [if_pos hj] at hc; exact hr _ c u hc hu
      · cases hu
    · have hu : ((cur.toList.drop (i * e + o)).take n)[j]? = some u := by simpa using hu
      rw [hget] at hu
      split at hu
      · exact h1 _ u hu
      · cases hu

theorem vo_load_varG {x : Operand} {T id e i o R n : Nat} {cs : List SV} {D : TypeDesc} {inf : TypeInfo} (ht : Nat.blt t s.n = true) (hx : getO s.env x = .ptr id e i o) (hrow : s.rows[id]? = some (.var R cs))
    (hT : P.underlying T = some D) (hD : D.isRow = true) (hinf : P.info? T = some inf) (hsz : inf.size = n) (hle : Nat.ble (i * e + o + n) cs.length = true)
    (next : VO P C ops rest Q (s.put t (.ag ((cs.drop (i * e + o)).take n)))) : VO P C ops (⟨some t, .load T x, ty, pos, af, none⟩ :: rest) Q s := vo_pure ht (lt_load_varG hx hrow hT hD hinf hsz hle) next

/-- A value of whatever cells is written into a variable. -/
theorem vo_store_varG {x y : Operand} {T id e i o R : Nat} {cs ys : List SV} {inf : TypeInfo} (hx : getO s.env x = .ptr id e i o) (hrow : s.rows[id]? = some (.var R cs))
    (hy : cellsG (getO s.env y) = some ys) (hok : okG s.rows (getO s.env y) = true) (hinf : P.info? T = some inf) (hsz : inf.size = ys.length) (hle : Nat.ble (i * e + o + ys.length) cs.length = true)
    (next : VO P C ops rest Q ⟨s.n, s.env, s.rows.set id (.var R (cs.take (i * e + o) ++ ys ++ cs.drop (i * e + o + ys.length)))⟩) :
    VO P C ops (⟨none, .store T x y, ty, pos, af, none⟩ :: rest) Q s := by
  refine vo_unit (s1 := { s with rows := s.rows.set id (.var R (cs.take (i * e + o) ++ ys ++ cs.drop (i * e + o + ys.length))) }) (fun m a w hs => ?_) next
  have hle := Nat.le_of_ble_eq_true hle
  obtain ⟨b, cur, hv, hm, hbk, hl, hr, h1⟩ := hs.var hx hrow
  obtain ⟨hvl, h, hone1⟩ := hs.cellsG hy hok
  have hone : ∀ u ∈ (a.eval y).cells.toList, u.oneCell' = true := by
    intro u hu
    obtain ⟨j, hj⟩ := List.getElem?_of_mem hu
    exact hone1 j u (by simpa using hj)
  generalize hvs : (a.eval y).cells = vs at *
  have hrun := run_storeCells_at P b (i * e + o) R vs.toList 0 cur w hbk (by simp; omega) hone
  simp only [Nat.add_zero, Array.length_toList, hvl] at hrun
  let cur' := (cur.toList.take (i * e + o) ++ vs.toList ++ cur.toList.drop (i * e + o + ys.length)).toArray
  refine ⟨w.setRow b cur', m, ?_, ?_⟩
  · simp [execOp, Instr.storeAt, hv, Instr.sureAddr, storeVar, sizeOf, typeInfo, hinf, hsz, hvs, hvl, hrun, cur']
  · refine hs.storeRow ⟨_, hrow, rfl⟩ (fun b' e => by cases e; rw [hm]; rfl) (grown_setRow w b cur') _ (fun hG => ?_)
    rw [hm]
    have hheap := setRow_heap w b cur cur' R _ hbk
    have hget : ∀ j, cur'[j]? = if j < i * e + o then cur[j]? else if j < i * e + o + ys.length then vs[j - (i * e + o)]? else cur[j]? := by
      intro j
      simp only [cur', List.getElem?_toArray]
      rw [List.getElem?_append, List.getElem?_append]
      simp only [List.length_append, List.length_take, Array.length_toList, hvl]
      have e1 : min (i * e + o) cur.size = i * e + o := by omega
      rw [e1]
      split
      · split
        · rw [List.getElem?_take, if_pos (by assumption)]; simp
        · simp
      · rw [List.getElem?_drop, show i * e + o + ys.length + (j - (i * e + o + ys.length)) = j by omega]; simp
    have hget2 : ∀ j, (cs.take (i * e + o) ++ ys ++ cs.drop (i * e + o + ys.length))[j]? = if j < i * e + o then cs[j]? else if j < i * e + o + ys.length then ys[j - (i * e + o)]? else cs[j]? := by
      intro j
      rw [List.getElem?_append, List.getElem?_append]
      simp only [List.length_append, List.length_take]
      have e1 : min (i * e + o) cs.length = i * e + o := by omega
      rw [e1]
      split
      · split
        · rw [List.getElem?_take, if_pos (by assumption)]
        · rfl
      · rw [if_neg (by omega), List.getElem?_drop, show i * e + o + ys.length + (j - (i * e + o + ys.length)) = j by omega]
    refine .var b R _ cur' hheap (by simp [cur']; omega) (fun j c u hc hu => ?_) (fun j u hu => ?_)
    · rw [hget2] at hc
      rw [hget] at hu
      split at hc
      · rename_i h3; rw [if_pos h3] at hu; exact (hr j c u hc hu).mono hG (Nat.le_refl _) (fun _ _ => rfl)
      · rename_i h3
        rw [if_neg h3] at hu
        split at hc
        · rename_i h4
          rw [if_pos h4] at hu
          exact (h _ c u hc hu).mono hG (Nat.le_refl _) (fun _ _ => rfl)
        · rename_i h4; rw [if_neg h4] at hu; exact (hr j c u hc hu).mono hG (Nat.le_refl _) (fun _ _ => rfl)
    · rw [hget] at hu
      split at hu
      · exact h1 j u hu
      · split at hu
        · exact hone u (by rw [Array.mem_toList_iff]; exact Array.mem_of_getElem? hu)
        · exact h1 j u hu

/-- A struct of whatever cells gets a variable of its own. -/
theorem vo_boxG {x : Operand} {S : TypeId} {ys : List SV} (ht : Nat.blt t s.n = true) (hy : cellsG (getO s.env x) = some ys) (hok : okG s.rows (getO s.env x) = true)
    (next : VO P C ops rest Q ⟨s.n, (t, .ptr s.rows.length 0 0 0) :: s.env, s.rows ++ [.var S ys]⟩) :
    VO P C ops (⟨some t, .box S x, ty, pos, af, none⟩ :: rest) Q s := by
  refine vo_value (s1 := { s with rows := s.rows ++ [.var S ys] }) (sv := .ptr s.rows.length 0 0 0) ht (fun m a w hs => ?_) next
  obtain ⟨hvl, h, hone1⟩ := hs.cellsG hy hok
  generalize hvs : (a.eval x).cells = vs at *
  have hadd := hs.addRow (w' := w.alloc (.cells vs S)) (World.grownBy_alloc w _ none) (.var S ys) (.of <| .pointer (some ⟨w.heap.size, 0, none⟩))
    (fun b hb => by simp [MV.of, blk] at hb; omega) (fun hG => .var w.heap.size S _ vs (heap_alloc_new w _) hvl (fun j c u hc hu => (h j c u hc hu).mono (N' := s.rows.length + 1) hG (by omega) (fun i hi => updM_ne _ _ (by omega))) hone1)
  refine ⟨.pointer (some ⟨w.heap.size, 0, none⟩), _, _, by simp [execOp, Instr.box, newVar, newRow, hvs], hadd.1, ?_⟩
  exact .ptr s.rows.length 0 0 0 w.heap.size (by simp) (by rw [updM_same]; rfl)

def applyG (pl : List (Nat × Nat)) : List SV → List (Nat × List SV) → Option (List SV)
  | cs, [] => some cs
  | cs, (k, p) :: r => match pl[k]? with
    | some (off, sz) => bif Nat.beq p.length sz && Nat.ble (off + sz) cs.length then applyG pl (cs.take off ++ p ++ cs.drop (off + sz)) r else none
    | none => none

def collectG (env : List (Nat × SV)) (rows : List Row) : List (Nat × Operand) → Option (List (Nat × List SV))
  | [] => some []
  | (k, x) :: r => match cellsG (getO env x), collectG env rows r with
    | some ys, some ps => bif okG rows (getO env x) then some ((k, ys) :: ps) else none
    | _, _ => none

end
end Go.Vl

/- 'append' to a row whose cells' type is not known (it was taken out of another), and a tree's cell that is known. -/
namespace Go.Vl
set_option linter.unusedVariables false
set_option linter.unusedSimpArgs false
open Go.RowKit
section
variable {P : Program} {C : Ctx} {Q : Go.Exit → St → Prop} {s : St} {ops : Array Oper} {rest : List Oper} {t : Nat} {ty : TypeId} {pos : String} {af : Array Edge}

end
section
variable {late : List Nat} {P : Program} {C : Ctx} {ops : Array Oper} {K : St → Prop} {s s1 : St} {n : Nat} {listed : Array Bool}
def StepV (late : List Nat) (P : Program) (C : Ctx) (ops : Array Oper) (n : Nat) (listed : Array Bool) (K : St → Prop) (s : St) (i : Nat) : Prop :=
  ∀ m a w, SimM C s m a w → wpOp P ops (post0 C K) i (fun a' w' => (ExtW w w' ∨ late.contains i = true) ∧ anyL late P ops (post0 C K) n (listed.setIfInBounds i true) a' w') a w
end
end Go.Vl

/- Rows of structs whose slices are their own: an element's slices are taken out as rows, and put back. -/
namespace Go.Vl
set_option linter.unusedVariables false
set_option linter.unusedSimpArgs false
open Go.RowKit

/-- Rows are told anew, and may be written: whatever they hold comes from rows that were there, or is new. -/
theorem SimM.remapE {C : Ctx} {s : St} {m : Nat → MV} {a : Act} {w w' : World} (h : SimM C s m a w) {bo : Option Nat} (hg : w.grownBy w' bo) (hbo : ∀ b, bo = some b → ∃ k, liveAt s.rows k ∧ (m k).S b)
    (env' : List (Nat × SV)) (rows' : List Row) (m' : Nat → MV) (hnbl : C.nb ≤ rows'.length) (hbor : ∀ i, i < C.nb → m' i = m i)
    (hsrc : ∀ j b, liveAt rows' j → (m' j).S b → (∃ k, liveAt s.rows k ∧ (m k).S b ∧ (C.nb ≤ j → C.nb ≤ k)) ∨ w.heap.size ≤ b)
    (hdist : ∀ i j b, liveAt rows' i → liveAt rows' j → (m' i).S b → (m' j).S b → i = j)
    (hrows : (∀ fr b, Gd C s.rows m w fr b → Gd C rows' m' w' fr b ∧ w'.heap[b]? = w.heap[b]?) → ∀ j q, rows'[j]? = some q → RowOK w' (Gd C rows' m' w') m' rows'.length (m' j) q)
    (henv : (∀ fr b, Gd C s.rows m w fr b → Gd C rows' m' w' fr b ∧ w'.heap[b]? = w.heap[b]?) → ∀ t, RS w' (Gd C rows' m' w') m' rows'.length (look env' t) (a.tmps.getD t undef)) :
    SimM C ⟨s.n, env', rows'⟩ m' a w' := by
  have hG : ∀ fr b, Gd C s.rows m w fr b → Gd C rows' m' w' fr b ∧ w'.heap[b]? = w.heap[b]? := by
    refine Gd.step (fun b => bo = some b) hg.size (fun k hk hn => hg.block k hk (fun e => hn e.symm)) (fun k hk => let ⟨i, h1, h2⟩ := hbo k hk; ⟨i, h1, h2⟩) (fun b hlt ⟨j, hl, hbk⟩ => ?_)
    rcases hsrc j b hl hbk with ⟨k, h1, h2, _⟩ | h1
    · exact ⟨k, h1, h2⟩
    · omega
  exact {
    defs := h.defs
    size := h.size
    os := hg.os.trans h.os
    tape := hg.tape.trans h.tape
    output := hg.output.trans h.output
    hsz := Nat.le_trans h.hsz hg.size
    old := fun k hk hn => by
      refine (hg.block k (by have := h.hsz; omega) (fun e => ?_)).trans (h.old k hk hn)
      obtain ⟨i, h1, h2⟩ := hbo k e.symm
      by_cases hi : i < C.nb
      · exact hn i hi (by rw [← h.bor i hi]; exact h2)
      · have := h.newb i k (by omega) h1 h2; omega
    bor := fun i hi => by rw [hbor i hi]; exact h.bor i hi
    nbl := hnbl
    newb := fun j b hj hl hbk => by
      rcases hsrc j b hl hbk with ⟨k, h1, h2, h3⟩ | h1
      · exact h.newb k b (h3 hj) h1 h2
      · have := h.hsz; omega
    dist := hdist
    rows := hrows hG
    env := henv hG }

theorem SimM.remap {C : Ctx} {s : St} {m : Nat → MV} {a : Act} {w w' : World} (h : SimM C s m a w) {bo : Option Nat} (hg : w.grownBy w' bo) (hbo : ∀ b, bo = some b → ∃ k, liveAt s.rows k ∧ (m k).S b)
    (rows' : List Row) (m' : Nat → MV) (hN : s.rows.length ≤ rows'.length) (hv : ∀ i, i < s.rows.length → (m' i).v = (m i).v) (hbor : ∀ i, i < C.nb → m' i = m i)
    (hsrc : ∀ j b, liveAt rows' j → (m' j).S b → (∃ k, liveAt s.rows k ∧ (m k).S b ∧ (C.nb ≤ j → C.nb ≤ k)) ∨ w.heap.size ≤ b)
    (hdist : ∀ i j b, liveAt rows' i → liveAt rows' j → (m' i).S b → (m' j).S b → i = j)
    (hrows : (∀ fr b, Gd C s.rows m w fr b → Gd C rows' m' w' fr b ∧ w'.heap[b]? = w.heap[b]?) → ∀ j q, rows'[j]? = some q → RowOK w' (Gd C rows' m' w') m' rows'.length (m' j) q) :
    SimM C ⟨s.n, s.env, rows'⟩ m' a w' :=
  h.remapE hg hbo s.env rows' m' (by have := h.nbl; omega) hbor hsrc hdist hrows (fun hG t => (h.env t).monoV hG hN hv)

theorem grown_refl (w : World) : w.grownBy w none := ⟨rfl, rfl, rfl, Nat.le_refl _, fun _ _ _ => rfl⟩

def okTake : PV → Bool
  | .sl _ _ _ => true
  | c => c.scal

def takePV (c : PV) : PV := match c with
  | .sl _ _ _ => .gone
  | c => c

def takeP : PV → PV
  | .agg cs => .agg (cs.map takePV)
  | c => takePV c

def takeSV : Nat → List PV → List SV
  | _, [] => []
  | N, .sl _ _ _ :: cs => .ref N :: takeSV (N + 1) cs
  | N, c :: cs => .pv true c :: takeSV N cs

def takeRows (Rf : Nat → TypeId) : Nat → List PV → List Row
  | _, [] => []
  | k, .sl nl e xs :: cs => .tree (Rf k) e nl none xs :: takeRows Rf (k + 1) cs
  | k, _ :: cs => takeRows Rf k cs

/-- The places of the slices among cells. -/
def takePos : Nat → List PV → List Nat
  | _, [] => []
  | j, .sl _ _ _ :: cs => j :: takePos (j + 1) cs
  | j, _ :: cs => takePos (j + 1) cs

section
variable {P : Program} {C : Ctx} {Q : Go.Exit → St → Prop} {s : St} {ops : Array Oper} {rest : List Oper} {t : Nat} {ty : TypeId} {pos : String} {af : Array Edge}

/-- The cells of an element of a row whose slices are its own. -/
theorem SimM.elemT {m : Nat → MV} {a : Act} {w : World} (hs : SimM C s m a w) {x : Operand} {id R e i o : Nat} {nl : Option Bool} {xs : List PV} (hx : getO s.env x = .ptr id e i o) (hrow : s.rows[id]? = some (.tree R e nl none xs)) {p : PV} (hget : xs[i]? = some p) :
    ∃ (b : Nat) (vals : List Value) (Sf : Nat → Nat → Prop), a.eval x = .pointer (some ⟨b, i * e + o, none⟩) ∧ blk (m id).v = some b ∧ w.ownsRow 0 R e (m id).v xs.length vals ∧ p.fits e ∧
      (∀ q, q < xs.length * e → w.cell? ⟨b, q, none⟩ = vals[q]?) ∧
      (∀ (k : Nat) (y : PV) (j : Nat) (c : PV) (u : Value), xs[k]? = some y → y.cells[j]? = some c → vals[k * e + j]? = some u → TP w c u (Sf (k * e + j))) ∧
      (∀ q q' b, Sf q b → Sf q' b → q = q') ∧ (∀ q b, Sf q b → blk (m id).v ≠ some b) ∧ (∀ q b, xs.length * e ≤ q → ¬ Sf q b) ∧ (∀ b, (m id).S b ↔ blk (m id).v = some b ∨ ∃ q, Sf q b) ∧
      (nl = some true → (m id).v = .slice none 0 0) ∧ (nl = some false → (m id).v ≠ .slice none 0 0) ∧ (∀ (k : Nat) (y : PV), xs[k]? = some y → y.fits e) ∧
      ∃ (cap : Nat) (cur : Array Value), (m id).v = .slice (some ⟨b, 0, none⟩) xs.length cap ∧ w.heap[b]? = some (.cells cur R (0, 0)) ∧ xs.length ≤ cap ∧ cap ≤ maxLen ∧ cur.size = cap * e ∧ cur.toList.take (xs.length * e) = vals := by
  obtain ⟨b, hv, hb, hid⟩ := hs.ptr hx
  have hR := hs.rows id _ hrow
  have hi : i < xs.length := (List.getElem?_eq_some_iff.1 hget).1
  generalize hmv : m id = v at *
  cases hR with
  | tree mv t' e nl h xs vals Sf hown h1 h2 hw hr hd hn hz hS hkn =>
    rcases hown.2 with ⟨e0, hn0⟩ | ⟨g, cap, cur, e0, h00, hheap, hle, hmx, hcs, htk⟩
    · omega
    · have hgb : b = g := by rw [e0] at hb; simpa [blk] using hb.symm
      subst hgb
      refine ⟨b, vals, Sf, hv, hb, hown, hw i p hget, fun q hq => ?_, fun k y j c u hy hc hu => (hr k y j c u hy hc hu).tp, hd, hn, hz, hS, h1, h2, hw, cap, cur, e0, hheap, hle, hmx, hcs, htk⟩
      rw [cell_of_row w b _ cur R (0, 0) hheap, ← htk, List.getElem?_take, if_pos hq]
      simp

end
end Go.Vl

/- An element's slices are put back into a row whose slices are its own; literals of such elements, and 'append'. -/
namespace Go.Vl
set_option linter.unusedVariables false
set_option linter.unusedSimpArgs false
open Go.RowKit

def deadAll (ks : List Nat) (rows : List Row) : List Row := ks.foldl (fun r k => r.set k .dead) rows

theorem deadAll_len : ∀ (ks : List Nat) (rows : List Row), (deadAll ks rows).length = rows.length
  | [], rows => rfl
  | k :: ks, rows => by
    show (deadAll ks (rows.set k .dead)).length = _
    rw [deadAll_len ks]; simp

theorem deadAll_get : ∀ (ks : List Nat) (rows : List Row) (j : Nat) (q : Row), (deadAll ks rows)[j]? = some q → (j ∈ ks ∧ q = .dead) ∨ (j ∉ ks ∧ rows[j]? = some q)
  | [], rows, j, q, h => .inr ⟨by simp, h⟩
  | k :: ks, rows, j, q, h => by
    rcases deadAll_get ks (rows.set k .dead) j q h with ⟨h1, h2⟩ | ⟨h1, h2⟩
    · exact .inl ⟨List.mem_cons_of_mem _ h1, h2⟩
    · rw [List.getElem?_set] at h2
      split at h2
      · rename_i e
        subst e
        split at h2
        · cases h2; exact .inl ⟨by simp, rfl⟩
        · cases h2
      · rename_i e
        exact .inr ⟨by simp only [List.mem_cons, not_or]; exact ⟨Ne.symm e, h1⟩, h2⟩

def refsOf : List SV → List Nat
  | [] => []
  | .ref k :: r => k :: refsOf r
  | _ :: r => refsOf r

theorem mem_refsOf : ∀ {ys : List SV} {j k : Nat}, ys[j]? = some (.ref k) → k ∈ refsOf ys
  | [], j, k, h => by simp at h
  | y :: ys, 0, k, h => by simp at h; subst h; simp [refsOf]
  | y :: ys, j + 1, k, h => by
    simp only [List.getElem?_cons_succ] at h
    have := mem_refsOf h
    cases y <;> simp [refsOf, this]

theorem refsOf_inj : ∀ {ys : List SV} {j j' k : Nat}, (refsOf ys).Nodup → ys[j]? = some (.ref k) → ys[j']? = some (.ref k) → j = j'
  | [], j, j', k, _, h, _ => by simp at h
  | y :: ys, 0, 0, k, _, _, _ => rfl
  | y :: ys, 0, j' + 1, k, hn, h, h' => by
    simp at h h'; subst h
    simp only [refsOf, List.nodup_cons] at hn
    exact (hn.1 (mem_refsOf h')).elim
  | y :: ys, j + 1, 0, k, hn, h, h' => by
    simp at h h'; subst h'
    simp only [refsOf, List.nodup_cons] at hn
    exact (hn.1 (mem_refsOf h)).elim
  | y :: ys, j + 1, j' + 1, k, hn, h, h' => by
    simp only [List.getElem?_cons_succ] at h h'
    have : (refsOf ys).Nodup := by cases y <;> simp_all [refsOf, List.nodup_cons]
    rw [refsOf_inj this h h']

/-- What goes into a cell. -/
def pvT (rows : List Row) : SV → Option PV
  | .pv _ c => bif c.scal then some c else match c with
    | .sl (some true) e [] => some (.sl (some true) e [])
    | _ => none
  | .ref k => match rows[k]? with
    | some (.tree _ e nl none xs) => some (.sl nl e xs)
    | _ => none
  | _ => none

def pvTs (rows : List Row) : List SV → Option (List PV)
  | [] => some []
  | y :: ys => match pvT rows y, pvTs rows ys with
    | some p, some ps => some (p :: ps)
    | _, _ => none

theorem pvTs_get {rows : List Row} : ∀ {ys : List SV} {ps : List PV}, pvTs rows ys = some ps → ys.length = ps.length ∧ ∀ (j : Nat) (y : SV) (p : PV), ys[j]? = some y → ps[j]? = some p → pvT rows y = some p
  | [], ps, h => by simp [pvTs] at h; subst h; exact ⟨rfl, fun j y p h => by simp at h⟩
  | y :: ys, ps, h => by
    simp only [pvTs] at h
    split at h
    · rename_i p ps' h1 h2
      cases h
      obtain ⟨g1, g2⟩ := pvTs_get h2
      refine ⟨by simp [g1], fun j y' p' h3 h4 => ?_⟩
      cases j with
      | zero => simp at h3 h4; subst h3; subst h4; exact h1
      | succ j => simp only [List.getElem?_cons_succ] at h3 h4; exact g2 j y' p' h3 h4
    · cases h

/-- The blocks of a cell's own. -/
def sOf (m : Nat → MV) (ys : List SV) (j b : Nat) : Prop := ∃ k, ys[j]? = some (.ref k) ∧ (m k).S b

section
variable {P : Program} {C : Ctx} {Q : Go.Exit → St → Prop} {s : St} {ops : Array Oper} {rest : List Oper} {t : Nat} {ty : TypeId} {pos : String} {af : Array Edge}

theorem SimM.putT {m : Nat → MV} {a : Act} {w : World} (hs : SimM C s m a w) {x : Operand} {ys : List SV} {ps : List PV} (hy : Vl.cellsG (getO s.env x) = some ys) (hok : okG s.rows (getO s.env x) = true) (hps : pvTs s.rows ys = some ps) :
    (∀ (j : Nat) (c : PV) (u : Value), ps[j]? = some c → (a.eval x).cells[j]? = some u → TP w c u (sOf m ys j)) ∧ (∀ (j k : Nat), ys[j]? = some (.ref k) → liveAt s.rows k) := by
  obtain ⟨g1, g2, g3⟩ := hs.cellsG hy hok
  obtain ⟨q1, q2⟩ := pvTs_get hps
  refine ⟨fun j c u hc hu => ?_, fun j k hk => ?_⟩
  · have hj : j < ys.length := by rw [q1]; exact (List.getElem?_eq_some_iff.1 hc).1
    have hyj := List.getElem?_eq_getElem hj
    have hp := q2 j _ c hyj hc
    have hr := g2 j _ u hyj hu
    have h1 := g3 j u hu
    generalize ys[j] = y at *
    cases y with
    | pv f p =>
      simp only [pvT] at hp
      cases hsc : p.scal with
      | false =>
        rw [hsc] at hp
        simp only [cond_false] at hp
        split at hp
        · rename_i e
          cases hp
          have hq := hr.pv_inv
          cases hq with
          | nilsl => exact .sl 0 e (some true) [] _ [] (fun _ _ => False) (sOf m ys j) (World.ownsRow_nil w 0 0 e) (fun _ => rfl) (fun h => by cases h) (fun i x hx => by simp at hx) (fun i x j c u hx => by simp at hx) (fun _ _ _ h => h.elim) (fun _ _ h => h.elim) (fun _ _ _ h => h) (fun b => ⟨fun ⟨k, h, _⟩ => (by rw [hyj] at h; cases h), fun h => h.elim (fun h => (by simp [blk] at h)) (fun ⟨_, h⟩ => h.elim)⟩)
          | sl nl e xs a len cap f h => exact (h rfl).elim
        · cases hp
      | true =>
        rw [hsc] at hp
        cases hp
        exact .scal _ _ _ hsc (hr.pv_inv.scal_any hsc) (fun b ⟨k, h, _⟩ => by rw [hyj] at h; cases h)
    | ref k =>
      simp only [pvT] at hp
      split at hp
      · rename_i R e nl xs hrow
        cases hp
        have hT := TP.of_tree (hs.rows k _ hrow)
        have hSe : sOf m ys j = (m k).S := by
          funext b
          refine propext ⟨fun ⟨k', h, hb⟩ => ?_, fun hb => ⟨k, hyj, hb⟩⟩
          rw [hyj] at h; cases h; exact hb
        rw [hSe]
        cases hr with
        | ref _ _ => exact hT
      · cases hp
    | _ => cases hp
  · have hj : j < ps.length := by rw [← q1]; exact (List.getElem?_eq_some_iff.1 hk).1
    have hp := q2 j _ _ hk (List.getElem?_eq_getElem hj)
    simp only [pvT] at hp
    split at hp
    · rename_i R e nl xs hrow; exact ⟨_, hrow, rfl⟩
    · cases hp

/-- An element goes into a place of a row whose slices are its own: its slices' rows go with it. -/
theorem vo_put {x y : Operand} {T id R e i k0 : Nat} {nl : Option Bool} {xs : List PV} {ys : List SV} {ps : List PV} {p : PV} {inf : TypeInfo} (hx : getO s.env x = .ptr id e i 0) (hrow : s.rows[id]? = some (.tree R e nl none xs))
    (hy : cellsG (getO s.env y) = some ys) (hok : okG s.rows (getO s.env y) = true) (hps : pvTs s.rows ys = some ps) (hpc : p.cells = ps) (hfp : fitsB e p = true)
    (hC : C.nb = k0) (hk : (id :: refsOf ys).all (fun k => Nat.ble k0 k) = true) (hnd : (id :: refsOf ys).Nodup) (hinf : P.info? T = some inf) (hsz : inf.size = e) (hi : i < xs.length)
    (next : VO P C ops rest Q ⟨s.n, s.env, (deadAll (refsOf ys) s.rows).set id (.tree R e nl none (xs.set i p))⟩) :
    VO P C ops (⟨none, .store T x y, ty, pos, af, none⟩ :: rest) Q s := by
  refine vo_unit (s1 := ⟨s.n, s.env, (deadAll (refsOf ys) s.rows).set id (.tree R e nl none (xs.set i p))⟩) (fun m a w hs => ?_) next
  obtain ⟨b, vals, Sf, hv, hb, hown, hf, hcell, hr, hd, hn, hz, hS, h1, h2, hw, cap, cur, hmv, hheap, hcap, hmx, hcs, htk⟩ := hs.elemT hx hrow (List.getElem?_eq_getElem hi)
  obtain ⟨hvl, _, hone1⟩ := hs.cellsG hy hok
  obtain ⟨hT, hlv⟩ := hs.putT hy hok hps
  obtain ⟨hyl, _⟩ := pvTs_get hps
  have hfp := fits_of hfp
  have hple : ps.length = e := by rw [← hpc]; exact hfp.1
  have hyse : ys.length = e := by omega
  have hid : id < s.rows.length := (List.getElem?_eq_some_iff.1 hrow).1
  have hlid : liveAt s.rows id := ⟨_, hrow, rfl⟩
  rw [List.all_eq_true] at hk
  have hnbk : ∀ k, k ∈ id :: refsOf ys → C.nb ≤ k := fun k h => by rw [hC]; exact Nat.le_of_ble_eq_true (hk k h)
  have hnb : C.nb ≤ id := hnbk id (by simp)
  rw [List.nodup_cons] at hnd
  obtain ⟨hidk, hnd⟩ := hnd
  have hle : i * e + e ≤ xs.length * e := by
    have := Nat.mul_le_mul_right e (show i + 1 ≤ xs.length by omega)
    rw [Nat.add_mul] at this
    omega
  have hle2 : xs.length * e ≤ cap * e := Nat.mul_le_mul_right e hcap
  have hvals : vals.length = xs.length * e := hown.1
  have hone : ∀ u ∈ (a.eval y).cells.toList, u.oneCell' = true := by
    intro u hu
    obtain ⟨j, hj⟩ := List.getElem?_of_mem hu
    exact hone1 j u (by simpa using hj)
  have hysv : (a.eval y).cells.size = e := by omega
  generalize hvs : (a.eval y).cells = vs at *
  have hrun := run_storeCells_at P b (i * e) R vs.toList 0 cur w hheap (by simp; omega) hone
  simp only [Nat.add_zero, Array.length_toList, hysv] at hrun
  let cur' := (cur.toList.take (i * e) ++ vs.toList ++ cur.toList.drop (i * e + e)).toArray
  let vals' := vals.take (i * e) ++ vs.toList ++ vals.drop (i * e + e)
  have hvl' : vals'.length = xs.length * e := by
    simp only [vals', List.length_append, List.length_take, List.length_drop, Array.length_toList, hysv, hvals]
    omega
  have hvget : ∀ j, vals'[j]? = if j < i * e then vals[j]? else if j < i * e + e then vs[j - i * e]? else vals[j]? := by
    intro j
    simp only [vals']
    rw [List.getElem?_append, List.getElem?_append]
    simp only [List.length_append, List.length_take, Array.length_toList, hysv]
    have e1 : min (i * e) vals.length = i * e := by omega
    rw [e1]
    split
    · split
      · rw [List.getElem?_take, if_pos (by assumption)]
      · simp
    · rw [if_neg (by omega), List.getElem?_drop, show i * e + e + (j - (i * e + e)) = j by omega]
  have hsep : ∀ k j, k ≠ i → j < e → k * e + j < i * e ∨ i * e + e ≤ k * e + j := by
    intro k j h3 h4
    rcases Nat.lt_or_ge k i with h5 | h5
    · left
      have := Nat.mul_le_mul_right e (show k + 1 ≤ i by omega)
      rw [Nat.add_mul] at this
      omega
    · right
      have := Nat.mul_le_mul_right e (show i + 1 ≤ k by omega)
      rw [Nat.add_mul] at this
      omega
  let Sf' : Nat → Nat → Prop := fun q b' => if i * e ≤ q ∧ q < i * e + e then sOf m ys (q - i * e) b' else Sf q b'
  let S' : Nat → Prop := fun b' => blk (m id).v = some b' ∨ ∃ q, Sf' q b'
  let m' : Nat → MV := updM m id ⟨(m id).v, S'⟩
  let rows' := (deadAll (refsOf ys) s.rows).set id (.tree R e nl none (xs.set i p))
  have hlen' : rows'.length = s.rows.length := by simp [rows', deadAll_len]
  have hmI : m' id = ⟨(m id).v, S'⟩ := updM_same ..
  have hmO : ∀ j, j ≠ id → m' j = m j := fun j h => updM_ne _ _ h
  have hmvv : ∀ j, (m' j).v = (m j).v := fun j => by
    by_cases e : j = id
    · subst e; rw [hmI]
    · rw [hmO j e]
  have hrk : ∀ j b', sOf m ys j b' → ∃ k, ys[j]? = some (.ref k) ∧ k ∈ refsOf ys ∧ liveAt s.rows k ∧ (m k).S b' := fun j b' ⟨k, h3, h4⟩ => ⟨k, h3, mem_refsOf h3, hlv j k h3, h4⟩
  have hSfS : ∀ q b', Sf q b' → (m id).S b' := fun q b' h => (hS b').2 (.inr ⟨q, h⟩)
  have hblkS : ∀ b', blk (m id).v = some b' → (m id).S b' := fun b' h => (hS b').2 (.inl h)
  have hno : ∀ k b', k ∈ refsOf ys → liveAt s.rows k → (m k).S b' → (m id).S b' → False := fun k b' h3 h4 h5 h6 => hidk ((hs.dist id k b' hlid h4 h6 h5) ▸ h3)
  have hlive : ∀ j, liveAt rows' j → j ∉ refsOf ys ∧ liveAt s.rows j := by
    intro j ⟨q, hq, hv⟩
    simp only [rows'] at hq
    rw [List.getElem?_set] at hq
    split at hq
    · rename_i e0; subst e0; exact ⟨hidk, hlid⟩
    · rcases deadAll_get _ _ _ _ hq with ⟨_, h4⟩ | ⟨h3, h4⟩
      · subst h4; cases hv
      · exact ⟨h3, q, h4, hv⟩
  have hsrc : ∀ j b', liveAt rows' j → (m' j).S b' → ∃ k, liveAt s.rows k ∧ (m k).S b' ∧ ((k = j) ∨ (j = id ∧ k ∈ refsOf ys)) := by
    intro j b' hl hb'
    obtain ⟨h3, h4⟩ := hlive j hl
    by_cases e0 : j = id
    · rw [e0, hmI] at hb'
      rcases hb' with h5 | ⟨q, h5⟩
      · exact ⟨id, hlid, hblkS b' h5, .inl e0.symm⟩
      · simp only [Sf'] at h5
        split at h5
        · obtain ⟨k, _, h6, h7, h8⟩ := hrk _ _ h5
          exact ⟨k, h7, h8, .inr ⟨e0, h6⟩⟩
        · exact ⟨id, hlid, hSfS _ b' h5, .inl e0.symm⟩
    · rw [hmO j e0] at hb'
      exact ⟨j, h4, hb', .inl rfl⟩
  refine ⟨w.setRow b cur', m', ?_, ?_⟩
  · simp [execOp, Instr.storeAt, hv, Instr.sureAddr, storeVar, sizeOf, typeInfo, hinf, hsz, hvs, hysv, hrun, cur']
  · refine hs.remap (grown_setRow w b cur') (fun b' e0 => by cases e0; exact ⟨id, hlid, hblkS b hb⟩) rows' m' (by rw [hlen']; exact Nat.le_refl _) (fun j _ => hmvv j) (fun j hj => hmO j (by omega)) (fun j b' hl hb' => ?_) ?_ ?_
    · obtain ⟨k, h3, h4, h5⟩ := hsrc j b' hl hb'
      exact .inl ⟨k, h3, h4, fun h6 => by rcases h5 with rfl | ⟨_, h5⟩; exact h6; exact hnbk k (List.mem_cons_of_mem _ h5)⟩
    · intro j1 j2 b' g1 g2 c1 c2
      obtain ⟨k1, a1, a2, a3⟩ := hsrc j1 b' g1 c1
      obtain ⟨k2, d1, d2, d3⟩ := hsrc j2 b' g2 c2
      have e0 := hs.dist k1 k2 b' a1 d1 a2 d2
      rcases a3 with rfl | ⟨rfl, a3⟩ <;> rcases d3 with rfl | ⟨rfl, d3⟩
      · exact e0
      · rw [← e0] at d3; exact ((hlive k1 g1).1 d3).elim
      · rw [e0] at a3; exact ((hlive k2 g2).1 a3).elim
      · rfl
    · intro hG j q hq
      change rows'[j]? = some q at hq
      simp only [rows'] at hq
      rw [List.getElem?_set] at hq
      have hheap' := setRow_heap w b cur cur' R _ hheap
      have hgs := grown_setRow w b cur'
      split at hq
      · rename_i e0
        have hq : Row.tree R e nl none (xs.set i p) = q := by
          split at hq
          · cases hq; rfl
          · cases hq
        subst hq
        rw [← e0, hmI]
        refine .tree ⟨(m id).v, S'⟩ R e nl none (xs.set i p) vals' Sf' ?_ h1 h2 (fun k y' hy' => ?_) (fun k y' jj c u hy' hc hu => .inl ?_) ?_ ?_ ?_ (fun _ => Iff.rfl) (fun _ _ h => by cases h)
        · refine ⟨by rw [hvl']; simp, .inr ⟨b, cap, cur', by rw [List.length_set]; exact hmv, Nat.zero_le _, hheap', by rw [List.length_set]; exact hcap, hmx, by simp [cur']; omega, ?_⟩⟩
          rw [List.length_set]
          refine List.ext_getElem? (fun j => ?_)
          rw [hvget, List.getElem?_take]
          simp only [cur']
          rw [List.getElem?_append, List.getElem?_append]
          simp only [List.length_append, List.length_take, Array.length_toList, hysv]
          have e1 : min (i * e) cur.size = i * e := by omega
          rw [e1, ← htk]
          by_cases hj : j < xs.length * e
          · rw [if_pos hj]
            split
            · split
              · rw [List.getElem?_take, if_pos (by assumption), List.getElem?_take, if_pos hj]
              · simp
            · rw [if_neg (by omega), List.getElem?_drop, show i * e + e + (j - (i * e + e)) = j by omega, List.getElem?_take, if_pos hj]
          · rw [if_neg hj, if_neg (by omega), if_neg (by omega), List.getElem?_take, if_neg hj]
        · rw [List.getElem?_set] at hy'
          split at hy'
          · cases hy'; exact hfp
          · exact hw k y' hy'
        · rw [List.getElem?_set] at hy'
          split at hy'
          · rename_i e1
            subst e1
            cases hy'
            rw [hpc] at hc
            have hjj : jj < e := by rw [← hple]; exact (List.getElem?_eq_some_iff.1 hc).1
            rw [hvget, if_neg (by omega), if_pos (by omega), Nat.add_sub_cancel_left] at hu
            have hSe : Sf' (i * e + jj) = sOf m ys jj := by
              funext b'
              show (if _ then _ else _) = _
              rw [if_pos ⟨by omega, by omega⟩, Nat.add_sub_cancel_left]
            rw [hSe]
            refine (hT jj c u hc hu).mono fun b' hb' => ?_
            obtain ⟨k, _, h6, h7, h8⟩ := hrk _ _ hb'
            exact hgs.block b' (hs.lt h7 h8) (fun e2 => by cases e2; exact hno k b h6 h7 h8 (hblkS b hb))
          · rename_i e1
            have hjj : jj < e := by rw [← (hw k y' hy').1]; exact (List.getElem?_eq_some_iff.1 hc).1
            have hs3 := hsep k jj (Ne.symm e1) hjj
            have hu' : vals[k * e + jj]? = some u := by
              rw [hvget] at hu
              rcases hs3 with h3 | h3
              · rwa [if_pos h3] at hu
              · rwa [if_neg (by omega), if_neg (by omega)] at hu
            have hSe : Sf' (k * e + jj) = Sf (k * e + jj) := by
              funext b'
              show (if _ then _ else _) = _
              rw [if_neg (by omega)]
            rw [hSe]
            exact (hr k y' jj c u hy' hc hu').mono fun b' hb' => hgs.block b' (hs.lt hlid (hSfS _ b' hb')) (fun e2 => by cases e2; exact hn _ b hb' hb)
        · intro q q' b' h3 h4
          simp only [Sf'] at h3 h4
          split at h3 <;> split at h4
          · obtain ⟨k, g1, g2, g3, g4⟩ := hrk _ _ h3
            obtain ⟨k', g1', g2', g3', g4'⟩ := hrk _ _ h4
            have e2 := hs.dist k k' b' g3 g3' g4 g4'
            subst e2
            have := refsOf_inj hnd g1 g1'
            omega
          · obtain ⟨k, g1, g2, g3, g4⟩ := hrk _ _ h3
            exact (hno k b' g2 g3 g4 (hSfS _ b' h4)).elim
          · obtain ⟨k, g1, g2, g3, g4⟩ := hrk _ _ h4
            exact (hno k b' g2 g3 g4 (hSfS _ b' h3)).elim
          · exact hd q q' b' h3 h4
        · intro q b' h3 h4
          simp only [Sf'] at h3
          split at h3
          · obtain ⟨k, g1, g2, g3, g4⟩ := hrk _ _ h3
            exact hno k b' g2 g3 g4 (hblkS b' h4)
          · exact hn q b' h3 h4
        · intro q b' h3 h4
          rw [List.length_set] at h3
          simp only [Sf'] at h4
          split at h4
          · omega
          · exact hz q b' h3 h4
      · rename_i e0
        rcases deadAll_get _ _ _ _ hq with ⟨_, h4⟩ | ⟨h3, h4⟩
        · subst h4; exact .dead _
        · rw [hmO j (Ne.symm e0)]
          exact (hs.rows j q h4).monoV hG (by rw [hlen']; exact Nat.le_refl _) (fun j _ => hmvv j) (fun hl b' hb' => hgs.block b' (hs.lt ⟨q, h4, hl⟩ hb') (fun e2 => by cases e2; exact e0 (hs.dist id j b hlid ⟨q, h4, hl⟩ (hblkS b hb) hb')))
end
end Go.Vl

/- Literals of elements whose slices are their own; 'append' of them; their plain cells. -/
namespace Go.Vl
set_option linter.unusedVariables false
set_option linter.unusedSimpArgs false
open Go.RowKit

section
variable {P : Program} {C : Ctx} {Q : Go.Exit → St → Prop} {s : St} {ops : Array Oper} {rest : List Oper} {t : Nat} {ty : TypeId} {pos : String} {af : Array Edge}

theorem SimM.weaktree {m : Nat → MV} {a : Act} {w : World} (hs : SimM C s m a w) {id R e : Nat} {nl : Option Bool} {xs : List PV} (hrow : s.rows[id]? = some (.tree R e nl none xs)) : SimM C ⟨s.n, s.env, s.rows.set id (.tree R e none none xs)⟩ m a w := by
  have hlid : liveAt s.rows id := ⟨_, hrow, rfl⟩
  refine hs.storeRow (w' := w) hlid (bo := none) (fun b h => by cases h) (grown_refl w) _ (fun hG => ?_)
  have := (hs.rows id _ hrow).mono hG (Nat.le_refl _) (fun _ _ => rfl) (fun _ _ _ => rfl)
  generalize m id = mv at this ⊢
  cases this with
  | tree mv t' e nl h xs vals Sf hown h1 h2 hw hr hd hn hz hS hkn =>
    exact .tree _ _ _ none none _ vals Sf hown (fun h => by cases h) (fun h => by cases h) hw hr hd hn hz hS hkn

theorem vo_weaktree {l : List Oper} (id : Nat) {R e : Nat} {nl : Option Bool} {xs : List PV} (hrow : s.rows[id]? = some (.tree R e nl none xs)) (next : VO P C ops l Q ⟨s.n, s.env, s.rows.set id (.tree R e none none xs)⟩) : VO P C ops l Q s :=
  fun a w ⟨m, hs⟩ => next a w ⟨m, hs.weaktree hrow⟩
end
end Go.Vl

/- Maps from numbers to numbers that the call made itself. -/
namespace Go.Vl
set_option linter.unusedVariables false
set_option linter.unusedSimpArgs false
open Go.RowKit

def mapI (h : Int → Option Int) : Int → Option PV := fun k => (h k).map intP
def updI (h : Int → Option Int) (k v : Int) : Int → Option Int := fun j => if j = k then some v else h j
def delI (h : Int → Option Int) (k : Int) : Int → Option Int := fun j => if j = k then none else h j
def nilI : Int → Option Int := fun _ => none

section
variable {P : Program} {C : Ctx} {Q : Go.Exit → St → Prop} {s : St} {ops : Array Oper} {rest : List Oper} {t : Nat} {ty : TypeId} {pos : String} {af : Array Edge}

end
end Go.Vl

/- Parts of a slice of the call's own: 'append(x[:i], x[j:]...)', a slice cut shorter, 'clear' behind its end. -/
namespace Go.Vl
set_option linter.unusedVariables false
set_option linter.unusedSimpArgs false
open Go.RowKit

section
variable {P : Program} {C : Ctx} {Q : Go.Exit → St → Prop} {s : St} {ops : Array Oper} {rest : List Oper} {t : Nat} {ty : TypeId} {pos : String} {af : Array Edge}

theorem SimM.sub {m : Nat → MV} {a : Act} {w : World} (hs : SimM C s m a w) {x : Operand} {id e l h c : Nat} (hx : getO s.env x = .sub id e l h c) : isSub (m id).v e l h c (a.eval x) ∧ id < s.rows.length := by
  have := hs.get x
  rw [hx] at this
  generalize a.eval x = v at this
  cases this with
  | sub _ _ _ _ _ _ hid hs => exact ⟨hs, hid⟩

end
end Go.Vl

/- Loops in which some slots and some rows turn; states made plain. -/
namespace Go.Vl
set_option linter.unusedVariables false
set_option linter.unusedSimpArgs false
open Go.RowKit

def setAll : List Row → List Nat → List Row → List Row
  | rows, [], _ => rows
  | rows, _ :: _, [] => rows
  | rows, i :: is, r :: rs => setAll (rows.set i r) is rs

def pickR (rows : List Row) (ch : List Nat) : List Row := ch.map fun i => (rows[i]?).getD .dead

section
variable {P : Program} {C : Ctx} {Q : Go.Exit → St → Prop} {s : St}

def againE (N : Nat) (Lf Lv ch : List Nat) (k : Nat) (F : List SV) (R : List Row) (I : Nat → List SV → List Row → Prop) (n : Nat) (s' : St) : Prop :=
  again N (Lf ++ Lv) k (fun m us rows => us.take Lf.length = F ∧ ∃ rs, rs.length = ch.length ∧ rows = setAll R ch rs ∧ I m (us.drop Lf.length) rs) n s'

/-- A loop whose slots Lf stay as they are, and all rows but those of ch. -/
theorem vc_loopE {c : Code} (Lf Lv ch : List Nat) (F : List SV) (R : List Row) (I : Nat → List SV → List Row → Prop) (n0 : Nat) (hF : (Lf.map fun t => look s.env t) = F) (hR : s.rows = R) (hnb : C.nb ≤ R.length)
    (hb0 : F.all (SV.bdd R.length) = true ∧ (Lv.map fun t => look s.env t).all (SV.bdd R.length) = true ∧ R.all (Row.bdd R.length) = true) (hself : setAll R ch (pickR R ch) = R)
    (h0 : I n0 (Lv.map fun t => look s.env t) (pickR R ch))
    (hround : ∀ n vs rs, vs.length = Lv.length → rs.length = ch.length → I n vs rs → VC P C c (thn (againE s.n Lf Lv ch R.length F R I n) Q) ⟨s.n, Lf.zip F ++ Lv.zip vs, setAll R ch rs⟩) :
    VC P C (.loop c) Q s := by
  subst hR
  subst hF
  have hl : (Lf.map fun t => look s.env t).length = Lf.length := by simp
  refine vc_loop (Lf ++ Lv) (fun m us rows => us.take Lf.length = (Lf.map fun t => look s.env t) ∧ ∃ rs, rs.length = ch.length ∧ rows = setAll s.rows ch rs ∧ I m (us.drop Lf.length) rs) n0 hnb ⟨?_, hb0.2.2⟩ ⟨?_, pickR s.rows ch, by simp [pickR], hself.symm, ?_⟩ ?_
  · rw [List.map_append, List.all_append, hb0.1, hb0.2.1]; rfl
  · rw [List.map_append]; simp
  · rw [List.map_append, show Lf.length = (Lf.map fun t => look s.env t).length from hl.symm, List.drop_left]; exact h0
  · rintro n vs rows hv - ⟨h1, rs, hrs, rfl, h2⟩
    have hv' : vs.length = Lf.length + Lv.length := by simpa using hv
    have := hround n (vs.drop Lf.length) rs (by simp; omega) hrs h2
    have e : (Lf ++ Lv).zip vs = Lf.zip (Lf.map fun t => look s.env t) ++ Lv.zip (vs.drop Lf.length) := by
      rw [← h1]
      conv => lhs; rw [← List.take_append_drop Lf.length vs]
      exact List.zip_append (by simp; omega)
    rw [e]
    exact this

theorem againE_mk {N : Nat} {Lf Lv ch : List Nat} {k : Nat} {F : List SV} {R : List Row} {I : Nat → List SV → List Row → Prop} {n : Nat} {s' : St} (h0 : Nat.beq s'.n N = true) (h1 : Nat.ble k s'.rows.length = true)
    (h2 : ((Lf ++ Lv).map fun t => look s'.env t).all (SV.bdd k) = true) (h3 : (s'.rows.take k).all (Row.bdd k) = true)
    (hF : (Lf.map fun t => look s'.env t) = F) (hR : s'.rows.take k = setAll R ch (pickR s'.rows ch))
    (h : ∃ n', n' < n ∧ I n' (Lv.map fun t => look s'.env t) (pickR s'.rows ch)) : againE N Lf Lv ch k F R I n s' := by
  refine ⟨⟨Nat.eq_of_beq_eq_true h0, Nat.le_of_ble_eq_true h1, h2, h3⟩, ?_⟩
  obtain ⟨n', hn, hI⟩ := h
  refine ⟨n', hn, ?_, pickR s'.rows ch, by simp [pickR], hR, ?_⟩
  · rw [List.map_append, ← hF]; simp
  · rw [List.map_append, show Lf.length = (Lf.map fun t => look s'.env t).length by simp, List.drop_left]; exact hI
end

section
variable {late : List Nat} {P : Program} {C : Ctx} {Q : Go.Exit → St → Prop} {K : St → Prop} {s s' : St} {ops : Array Oper} {n : Nat} {listed : Array Bool}
theorem vo_stM {l : List Oper} (next : VO P C ops l Q s') (h : s = s' := by (try simp only [St.put, exposeE, killE, SV.expose, SV.kill, Row.expose, Row.kill, rowsAfter_nil, rowsAfter_one, packS, SV.shift, placeOf, enumE, List.zip_cons_cons, List.zip_nil_right, List.map_cons, List.map_nil, List.set_cons_zero, List.set_cons_succ, List.length_cons, List.length_nil, List.cons_append, List.nil_append, List.drop_succ_cons, List.drop_zero, List.drop_nil, List.take_succ_cons, List.take_zero, List.take_nil, List.getElem?_cons_zero, List.getElem?_cons_succ, List.getElem?_nil, Option.getD_some, Option.getD_none, Option.map_some, Option.map_none, Nat.reduceAdd, Nat.reduceSub, Nat.reduceEqDiff, Nat.zero_add, Bool.true_or, PV.scal, Bool.or_false, Bool.or_true, Bool.false_or, Bool.and_true, Bool.and_false, Bool.true_and, reduceIte, reduceCtorEq, SV.kill1, SV.expose1, deadAll, refsOf, List.foldl_cons, List.foldl_nil, takeSV, takeRows, takeP, takePV, setAll, resG, look_cons, Nat.succ.injEq, Nat.add_eq, Nat.mul_one, Nat.mul_zero, Nat.zero_mul, Nat.add_zero, List.map_map, PV.cells, Nat.reduceMul, List.append_nil, Option.some.injEq, Int.toNat_natCast]); exact eq_refl _) : VO P C ops l Q s := vo_st h next
theorem vc_stM {code : Code} (next : VC P C code Q s') (h : s = s' := by (try simp only [St.put, exposeE, killE, SV.expose, SV.kill, Row.expose, Row.kill, rowsAfter_nil, rowsAfter_one, packS, SV.shift, placeOf, enumE, List.zip_cons_cons, List.zip_nil_right, List.map_cons, List.map_nil, List.set_cons_zero, List.set_cons_succ, List.length_cons, List.length_nil, List.cons_append, List.nil_append, List.drop_succ_cons, List.drop_zero, List.drop_nil, List.take_succ_cons, List.take_zero, List.take_nil, List.getElem?_cons_zero, List.getElem?_cons_succ, List.getElem?_nil, Option.getD_some, Option.getD_none, Option.map_some, Option.map_none, Nat.reduceAdd, Nat.reduceSub, Nat.reduceEqDiff, Nat.zero_add, Bool.true_or, PV.scal, Bool.or_false, Bool.or_true, Bool.false_or, Bool.and_true, Bool.and_false, Bool.true_and, reduceIte, reduceCtorEq, SV.kill1, SV.expose1, deadAll, refsOf, List.foldl_cons, List.foldl_nil, takeSV, takeRows, takeP, takePV, setAll, resG, look_cons, Nat.succ.injEq, Nat.add_eq, Nat.mul_one, Nat.mul_zero, Nat.zero_mul, Nat.add_zero, List.map_map, PV.cells, Nat.reduceMul, List.append_nil, Option.some.injEq, Int.toNat_natCast]); exact eq_refl _) : VC P C code Q s := vc_st h next
theorem vd_stM (next : VD P C ops n listed K s') (h : s = s' := by (try simp only [St.put, exposeE, killE, SV.expose, SV.kill, Row.expose, Row.kill, rowsAfter_nil, rowsAfter_one, packS, SV.shift, placeOf, enumE, List.zip_cons_cons, List.zip_nil_right, List.map_cons, List.map_nil, List.set_cons_zero, List.set_cons_succ, List.length_cons, List.length_nil, List.cons_append, List.nil_append, List.drop_succ_cons, List.drop_zero, List.drop_nil, List.take_succ_cons, List.take_zero, List.take_nil, List.getElem?_cons_zero, List.getElem?_cons_succ, List.getElem?_nil, Option.getD_some, Option.getD_none, Option.map_some, Option.map_none, Nat.reduceAdd, Nat.reduceSub, Nat.reduceEqDiff, Nat.zero_add, Bool.true_or, PV.scal, Bool.or_false, Bool.or_true, Bool.false_or, Bool.and_true, Bool.and_false, Bool.true_and, reduceIte, reduceCtorEq, SV.kill1, SV.expose1, deadAll, refsOf, List.foldl_cons, List.foldl_nil, takeSV, takeRows, takeP, takePV, setAll, resG, look_cons, Nat.succ.injEq, Nat.add_eq, Nat.mul_one, Nat.mul_zero, Nat.zero_mul, Nat.add_zero, List.map_map, PV.cells, Nat.reduceMul, List.append_nil, Option.some.injEq, Int.toNat_natCast]); exact eq_refl _) : VD P C ops n listed K s := vd_st h next
theorem vl_stM (next : VL late P C ops n listed K s') (h : s = s' := by (try simp only [St.put, exposeE, killE, SV.expose, SV.kill, Row.expose, Row.kill, rowsAfter_nil, rowsAfter_one, packS, SV.shift, placeOf, enumE, List.zip_cons_cons, List.zip_nil_right, List.map_cons, List.map_nil, List.set_cons_zero, List.set_cons_succ, List.length_cons, List.length_nil, List.cons_append, List.nil_append, List.drop_succ_cons, List.drop_zero, List.drop_nil, List.take_succ_cons, List.take_zero, List.take_nil, List.getElem?_cons_zero, List.getElem?_cons_succ, List.getElem?_nil, Option.getD_some, Option.getD_none, Option.map_some, Option.map_none, Nat.reduceAdd, Nat.reduceSub, Nat.reduceEqDiff, Nat.zero_add, Bool.true_or, PV.scal, Bool.or_false, Bool.or_true, Bool.false_or, Bool.and_true, Bool.and_false, Bool.true_and, reduceIte, reduceCtorEq, SV.kill1, SV.expose1, deadAll, refsOf, List.foldl_cons, List.foldl_nil, takeSV, takeRows, takeP, takePV, setAll, resG, look_cons, Nat.succ.injEq, Nat.add_eq, Nat.mul_one, Nat.mul_zero, Nat.zero_mul, Nat.add_zero, List.map_map, PV.cells, Nat.reduceMul, List.append_nil, Option.some.injEq, Int.toNat_natCast]); exact eq_refl _) : VL late P C ops n listed K s := vl_st h next
/-- A call that makes rows, in a statement with operations that write, when nothing else can come next. -/
theorem vl_callR (i : Nat) (bs : List Nat) (hbs : bs = []) {brows : List Row} {t : Nat} {ty : TypeId} {pos : String} {af : Array Edge} {gd : Option (Nat × Bool)} {f : FuncId} {fn : Func} {xs : Array Operand} {Ts : Array TypeId} {args : List SV} {R : List SV → List Row → Prop}
    (hi : ops[i]? = some ⟨some t, .call ⟨.value (.func f), xs, Ts⟩, ty, pos, af, gd⟩) (hr : Region.ready .any ops listed = [i]) (hw : Wnt C ops s ⟨some t, .call ⟨.value (.func f), xs, Ts⟩, ty, pos, af, gd⟩ true)
    (hf : P.funcs[f]? = some fn) (hnm : (fn.name == "runtime.NumGoroutine") = false) (hbd : fn.body.isNone = false) (ht : Nat.blt t s.n = true)
    (hargs : (xs.toList.map (getO s.env)).mapM (argOfB bs s.rows) = some args) (hsat : SatAt P f args brows R)
    (hb1 : bs.map (fun id => (s.rows[id]?).map Row.toArg) = brows.map some) (hb2 : brows.all Row.live = true) (hb3 : bs.map (placeOf bs) = (List.range bs.length).map some)
    (next : ∀ res rows', R res rows' → bs.length ≤ rows'.length ∧ (res.all SV.noTup = true ∧ rows'.all (Row.bdd 0) = true ∧ (rows'.take bs.length).all Row.live = true ∧ rows'.all Row.noGh = true) ∧
      (((xs.toList.map (getO s.env)).any (SV.isKept bs) = false) ∨ (res.all SV.fresh = true ∧ rows'.all Row.fresh = true)) ∧
      VL late P C ops n (listed.setIfInBounds i true) K ⟨s.n, (t, packS (res.map (SV.shift bs s.rows.length))) :: s.env, rowsAfter bs s.rows rows'⟩) :
    VL late P C ops (n + 1) listed K s := by
  intro m a w hs
  refine ⟨fun h => (by rw [hr] at h; cases h), fun j hj => ?_⟩
  rw [hr] at hj
  simp at hj
  subst hj
  unfold wpOp
  simp only [hi]
  rw [if_pos (hw m a w hs)]
  left
  exact ow_callR bs hbs hs hf hnm hbd ht hargs hsat hb1 hb2 hb3 (fun res rows' hR => let ⟨h1, h2, h3, h4⟩ := next res rows' hR; ⟨h1, h2, h3, fun m' a' w' hx hs' => ⟨.inl hx, h4 m' a' w' hs'⟩⟩)
end
end Go.Vl

/- The way into a function, and what it hands back: values, structs, and rows of its own. -/
namespace Go.Vl
set_option linter.unusedVariables false
set_option linter.unusedSimpArgs false
open Go.RowKit

def retQ (C : Ctx) (rs : List (Nat × Option (Nat × Nat))) (R : List SV → List Row → Prop) (e : Go.Exit) (s : St) : Prop :=
  (e = .normal ∨ e = .ret) ∧ rs.all (resGOK s) = true ∧ ∃ res rows', res.length = rs.length ∧ Hands C (List.range rs.length) res rows' ⟨rs.length, enumE 0 (rs.map (resG s)), s.rows⟩ ∧ R res rows'

section
variable {P : Program}

theorem sat_entry_G {f : FuncId} {fn : Func} {c : Code} {args : List SV} {rows : List Row} {R : List SV → List Row → Prop} {rs : List (Nat × Option (Nat × Nat))} (hf : P.funcs[f]? = some fn) (hb : fn.body = some c)
    (hr : fn.results = (rs.map resVar).toArray) (hl : rs.length ≤ 5) (hn : args.length ≤ fn.ntmps) (hT : ∀ r ∈ rs, resT P r)
    (h : ∀ C : Ctx, C.nb = rows.length → VC P C c (retQ C rs R) ⟨fn.ntmps, enumE 0 args, rows⟩) : SatAt P f args rows R := by
  intro C m vals hnb hA hv hs
  refine calls_of_wp hf hb ?_
  have hs2 : SimM C ⟨fn.ntmps, enumE 0 args, rows⟩ m { tmps := vals ++ Array.replicate (fn.ntmps - vals.size) undef, defers := [] } C.w0 := by
    refine { hs with size := ?_, env := fun t => ?_, defs := rfl }
    · simp; omega
    · have := hs.env t
      show RS _ _ _ _ (look (enumE 0 args) t) _
      change RS _ _ _ _ (look (enumE 0 args) t) _ at this
      by_cases ht : t < vals.size
      · have e : (vals ++ Array.replicate (fn.ntmps - vals.size) undef).getD t undef = vals.getD t undef := by
          simp [Array.getD, ht]
          intro hh; omega
        rw [e]
        exact this
      · have e : look (enumE 0 args) t = .any := by
          rw [look_enumE]
          simp
          rw [List.getElem?_eq_none (by omega)]
          rfl
        rw [e]
        exact .any _
  refine wp_mono (h C hnb _ _ ⟨m, hs2⟩) ?_
  rintro e a w' ⟨s', ⟨m', hs'⟩, he, hok, res, rows', hlen, hh, hR⟩
  obtain ⟨us, hrun, hul, hus⟩ := run_resGA (P := P) hs' hr hl hT hok
  have hs3 : SimM C ⟨rs.length, enumE 0 (rs.map (resG s')), s'.rows⟩ m' ⟨us, []⟩ w' := { hs' with
    defs := rfl
    size := hul
    env := fun t => by
      show RS _ _ _ _ (look (enumE 0 (rs.map (resG s'))) t) _
      rw [look_enumE]
      simp only [Nat.zero_le, if_true, Nat.sub_zero]
      rcases Nat.lt_or_ge t rs.length with ht | ht
      · simp only [List.getElem?_map, List.getElem?_eq_getElem ht, Option.map_some, Option.getD_some]
        exact hus t _ (List.getElem?_eq_getElem ht)
      · simp only [List.getElem?_map, List.getElem?_eq_none ht, Option.map_none, Option.getD_none]
        exact .any _ }
  obtain ⟨m2, hm2⟩ := hh m' _ w' hs3
  have hts : ((List.range rs.length).map fun t => us.getD t undef).toArray = us := by
    apply Array.ext_getElem?
    intro i
    simp only [List.getElem?_toArray, List.getElem?_map]
    rcases Nat.lt_or_ge i rs.length with hi | hi
    · rw [List.getElem?_range hi, Array.getElem?_eq_getElem (by omega)]
      simp [Array.getD, show i < us.size by omega]
    · rw [List.getElem?_eq_none (by simpa using hi), Array.getElem?_eq_none (by omega)]
      rfl
  have key : ∃ v, (results fn a.tmps).run P w' = .ok v w' ∧ (∃ (us : Array Value) (res : List SV) (rows' : List Row) (m' : Nat → MV), Ending.returned v = .returned (pack us) ∧ us.size = res.length ∧
      SimM C ⟨us.size, enumE 0 res, rows'⟩ m' ⟨us, []⟩ w' ∧ R res rows') := by
    refine ⟨_, hrun, us, res, rows', m2, rfl, by rw [hul, hlen], ?_, hR⟩
    change SimM C ⟨_, _, _⟩ m2 ⟨((List.range rs.length).map fun t => us.getD t undef).toArray, []⟩ w' at hm2
    rw [hts] at hm2
    rw [hul]
    simpa using hm2
  obtain ⟨v, hv1, hv2⟩ := key
  rcases he with rfl | rfl
  · exact ⟨hs'.defs, v, hv1, hv2⟩
  · exact ⟨hs'.defs, v, hv1, hv2⟩

theorem retQ_sel {C : Ctx} {rs : List (Nat × Option (Nat × Nat))} {R : List SV → List Row → Prop} {s : St} {e : Go.Exit} {k : Nat} (sel : List Nat) {srows : List Row} (he : e = .normal ∨ e = .ret) (hnb : C.nb = k) (hok : rs.all (resGOK s) = true) (hkl : Nat.ble k s.rows.length = true)
    (h3 : sel.map (placeOf sel) = (List.range sel.length).map some) (hsr : sel.map (fun id => s.rows[id]?) = srows.map some) (hge : sel.all (fun id => Nat.ble k id) = true) (hb1 : (s.rows.take k).all (Row.bdd k) = true) (hb2 : srows.all (Row.bdd 0) = true)
    (hR : R ((List.range rs.length).map fun t => renS k sel (look (enumE 0 (rs.map (resG s))) t)) (s.rows.take k ++ srows)) : retQ C rs R e s :=
  ⟨he, hok, _, _, by simp, hands_sel (s := ⟨rs.length, enumE 0 (rs.map (resG s)), s.rows⟩) (ts := List.range rs.length) sel hnb hkl h3 hsr hge hb1 hb2, hR⟩
end
end Go.Vl

/- A field of an element of a row is written. -/
namespace Go.Vl
set_option linter.unusedVariables false
set_option linter.unusedSimpArgs false
open Go.RowKit
section
variable {P : Program} {C : Ctx} {Q : Go.Exit → St → Prop} {s : St} {ops : Array Oper} {rest : List Oper} {t : Nat} {ty : TypeId} {pos : String} {af : Array Edge}

end
end Go.Vl

/- The facts on the types of this translation that the rules ask for. -/
namespace Go.Vl
set_option linter.unusedVariables false
set_option linter.unusedSimpArgs false
open Go.Proofs
noncomputable def ti3 : TypeInfo := (Tryz.prog.info? 3).getD default
theorem inf3 : Tryz.prog.info? 3 = some ti3 := by kernel_rfl
theorem sz3 : ti3.size = 1 := by kernel_rfl
theorem by3 : ti3.bytes = 8 := by kernel_rfl
noncomputable def ti4 : TypeInfo := (Tryz.prog.info? 4).getD default
noncomputable def ti5 : TypeInfo := (Tryz.prog.info? 5).getD default
noncomputable def ti22 : TypeInfo := (Tryz.prog.info? 22).getD default
theorem inf22 : Tryz.prog.info? 22 = some ti22 := by kernel_rfl
theorem sz22 : ti22.size = 1 := by kernel_rfl
noncomputable def ti23 : TypeInfo := (Tryz.prog.info? 23).getD default
theorem inf23 : Tryz.prog.info? 23 = some ti23 := by kernel_rfl
theorem sz23 : ti23.size = 1 := by kernel_rfl
noncomputable def ti24 : TypeInfo := (Tryz.prog.info? 24).getD default
theorem inf24 : Tryz.prog.info? 24 = some ti24 := by kernel_rfl
theorem sz24 : ti24.size = 1 := by kernel_rfl
noncomputable def ti26 : TypeInfo := (Tryz.prog.info? 26).getD default
theorem inf26 : Tryz.prog.info? 26 = some ti26 := by kernel_rfl
theorem sz26 : ti26.size = 3 := by kernel_rfl
noncomputable def ti28 : TypeInfo := (Tryz.prog.info? 28).getD default
theorem inf28 : Tryz.prog.info? 28 = some ti28 := by kernel_rfl
theorem sz28 : ti28.size = 1 := by kernel_rfl
theorem by28 : ti28.bytes = 24 := by kernel_rfl
noncomputable def ti30 : TypeInfo := (Tryz.prog.info? 30).getD default
theorem inf30 : Tryz.prog.info? 30 = some ti30 := by kernel_rfl
theorem sz30 : ti30.size = 1 := by kernel_rfl
noncomputable def ti31 : TypeInfo := (Tryz.prog.info? 31).getD default
theorem inf31 : Tryz.prog.info? 31 = some ti31 := by kernel_rfl
theorem sz31 : ti31.size = 1 := by kernel_rfl
noncomputable def ti33 : TypeInfo := (Tryz.prog.info? 33).getD default
theorem inf33 : Tryz.prog.info? 33 = some ti33 := by kernel_rfl
theorem sz33 : ti33.size = 3 := by kernel_rfl
noncomputable def ti45 : TypeInfo := (Tryz.prog.info? 45).getD default
noncomputable def ti49 : TypeInfo := (Tryz.prog.info? 49).getD default
theorem inf49 : Tryz.prog.info? 49 = some ti49 := by kernel_rfl
theorem sz49 : ti49.size = 4 := by kernel_rfl
noncomputable def ti52 : TypeInfo := (Tryz.prog.info? 52).getD default
theorem inf52 : Tryz.prog.info? 52 = some ti52 := by kernel_rfl
theorem sz52 : ti52.size = 3 := by kernel_rfl
theorem by52 : ti52.bytes = 24 := by kernel_rfl
noncomputable def ti55 : TypeInfo := (Tryz.prog.info? 55).getD default
theorem inf55 : Tryz.prog.info? 55 = some ti55 := by kernel_rfl
theorem sz55 : ti55.size = 1 := by kernel_rfl
noncomputable def ti57 : TypeInfo := (Tryz.prog.info? 57).getD default
theorem inf57 : Tryz.prog.info? 57 = some ti57 := by kernel_rfl
theorem sz57 : ti57.size = 2 := by kernel_rfl
theorem by57 : ti57.bytes = 32 := by kernel_rfl
noncomputable def ti88 : TypeInfo := (Tryz.prog.info? 88).getD default
noncomputable def ti97 : TypeInfo := (Tryz.prog.info? 97).getD default
theorem inf97 : Tryz.prog.info? 97 = some ti97 := by kernel_rfl
theorem sz97 : ti97.size = 1 := by kernel_rfl
theorem by97 : ti97.bytes = 24 := by kernel_rfl
noncomputable def ti102 : TypeInfo := (Tryz.prog.info? 102).getD default
theorem inf102 : Tryz.prog.info? 102 = some ti102 := by kernel_rfl
theorem sz102 : ti102.size = 2 := by kernel_rfl
theorem by102 : ti102.bytes = 16 := by kernel_rfl
noncomputable def ti114 : TypeInfo := (Tryz.prog.info? 114).getD default
theorem inf114 : Tryz.prog.info? 114 = some ti114 := by kernel_rfl
theorem sz114 : ti114.size = 1 := by kernel_rfl
theorem by114 : ti114.bytes = 24 := by kernel_rfl
noncomputable def ti116 : TypeInfo := (Tryz.prog.info? 116).getD default
theorem inf116 : Tryz.prog.info? 116 = some ti116 := by kernel_rfl
theorem sz116 : ti116.size = 1 := by kernel_rfl
noncomputable def ti118 : TypeInfo := (Tryz.prog.info? 118).getD default
theorem inf118 : Tryz.prog.info? 118 = some ti118 := by kernel_rfl
theorem sz118 : ti118.size = 2 := by kernel_rfl
theorem by118 : ti118.bytes = 32 := by kernel_rfl
noncomputable def ti126 : TypeInfo := (Tryz.prog.info? 126).getD default
theorem inf126 : Tryz.prog.info? 126 = some ti126 := by kernel_rfl
noncomputable def ti128 : TypeInfo := (Tryz.prog.info? 128).getD default
theorem inf128 : Tryz.prog.info? 128 = some ti128 := by kernel_rfl
theorem sz128 : ti128.size = 4 := by kernel_rfl
noncomputable def ti130 : TypeInfo := (Tryz.prog.info? 130).getD default
theorem inf130 : Tryz.prog.info? 130 = some ti130 := by kernel_rfl
noncomputable def ti131 : TypeInfo := (Tryz.prog.info? 131).getD default
theorem inf131 : Tryz.prog.info? 131 = some ti131 := by kernel_rfl
noncomputable def ti133 : TypeInfo := (Tryz.prog.info? 133).getD default
theorem inf133 : Tryz.prog.info? 133 = some ti133 := by kernel_rfl
noncomputable def ti134 : TypeInfo := (Tryz.prog.info? 134).getD default
theorem inf134 : Tryz.prog.info? 134 = some ti134 := by kernel_rfl
noncomputable def ti138 : TypeInfo := (Tryz.prog.info? 138).getD default
noncomputable def ti140 : TypeInfo := (Tryz.prog.info? 140).getD default
noncomputable def ti142 : TypeInfo := (Tryz.prog.info? 142).getD default
noncomputable def ti145 : TypeInfo := (Tryz.prog.info? 145).getD default
noncomputable def ti157 : TypeInfo := (Tryz.prog.info? 157).getD default
theorem inf157 : Tryz.prog.info? 157 = some ti157 := by kernel_rfl
theorem sz157 : ti157.size = 3 := by kernel_rfl
theorem by157 : ti157.bytes = 24 := by kernel_rfl
noncomputable def ti170 : TypeInfo := (Tryz.prog.info? 170).getD default
theorem inf170 : Tryz.prog.info? 170 = some ti170 := by kernel_rfl
theorem sz170 : ti170.size = 2 := by kernel_rfl
theorem by170 : ti170.bytes = 16 := by kernel_rfl
theorem E22 : ElInfo Tryz.prog 22 28 1 24 (.sl (some true) 1 []) :=
  ⟨Tryz.underlying22, ⟨ti28, (.slice none 0 0), inf28, sz28, by28, by kernel_rfl, by kernel_rfl, fun _ _ => .nilsl _ _ (by decide)⟩, fits_of rfl, by decide⟩
theorem E23 : ElInfo Tryz.prog 23 114 1 24 (.sl (some true) 3 []) :=
  ⟨Tryz.underlying23, ⟨ti114, (.slice none 0 0), inf114, sz114, by114, by kernel_rfl, by kernel_rfl, fun _ _ => .nilsl _ _ (by decide)⟩, fits_of rfl, by decide⟩
theorem E28 : ElInfo Tryz.prog 28 3 1 8 (.int .i64 0) :=
  ⟨Tryz.underlying28, ⟨ti3, (.int .i64 0), inf3, sz3, by3, by kernel_rfl, by kernel_rfl, fun _ _ => .int _ _⟩, fits_of rfl, by decide⟩
theorem E30 : ElInfo Tryz.prog 30 97 1 24 (.sl (some true) 3 []) :=
  ⟨Tryz.underlying30, ⟨ti97, (.slice none 0 0), inf97, sz97, by97, by kernel_rfl, by kernel_rfl, fun _ _ => .nilsl _ _ (by decide)⟩, fits_of rfl, by decide⟩
theorem Z33 : StZ Tryz.prog 33 [(.sl none 1 []), (.sl none 1 []), (.sl none 2 [])] := by
  refine ⟨⟨_, Tryz.underlying33⟩, ti33, #[(.slice none 0 0), (.slice none 0 0), (.slice none 0 0)], inf33, sz33, by kernel_rfl, fun w G => .agg _ _ rfl ?_ ?_⟩
  · intro j c h
    match j, h with
    | 0, h => cases h; rfl
    | 1, h => cases h; rfl
    | 2, h => cases h; rfl
  · intro j c u h hu
    match j, h, hu with
    | 0, h, hu => cases h; cases hu; exact .nilsl _ _ (by decide)
    | 1, h, hu => cases h; cases hu; exact .nilsl _ _ (by decide)
    | 2, h, hu => cases h; cases hu; exact .nilsl _ _ (by decide)
theorem Z49 : StZ Tryz.prog 49 [(.int .i64 0), (.int .i64 0), (.int .i64 0), (.int .i64 0)] := by
  refine ⟨⟨_, Tryz.underlying49⟩, ti49, #[(.int .i64 0), (.int .i64 0), (.int .i64 0), (.int .i64 0)], inf49, sz49, by kernel_rfl, fun w G => .agg _ _ rfl ?_ ?_⟩
  · intro j c h
    match j, h with
    | 0, h => cases h; rfl
    | 1, h => cases h; rfl
    | 2, h => cases h; rfl
    | 3, h => cases h; rfl
  · intro j c u h hu
    match j, h, hu with
    | 0, h, hu => cases h; cases hu; exact .int _ _
    | 1, h, hu => cases h; cases hu; exact .int _ _
    | 2, h, hu => cases h; cases hu; exact .int _ _
    | 3, h, hu => cases h; cases hu; exact .int _ _
theorem S49 : StInfo Tryz.prog 49 [(0, 1), (1, 1), (2, 1), (3, 1)] [(.int .i64 0), (.int .i64 0), (.int .i64 0), (.int .i64 0)] := by
  refine ⟨⟨_, Tryz.underlying49⟩, #[(.int .i64 0), (.int .i64 0), (.int .i64 0), (.int .i64 0)], fun l => by kernel_rfl, fun w G => .agg _ _ rfl ?_ ?_⟩
  · intro j c h
    match j, h with
    | 0, h => cases h; rfl
    | 1, h => cases h; rfl
    | 2, h => cases h; rfl
    | 3, h => cases h; rfl
  · intro j c u h hu
    match j, h, hu with
    | 0, h, hu => cases h; cases hu; exact .int _ _
    | 1, h, hu => cases h; cases hu; exact .int _ _
    | 2, h, hu => cases h; cases hu; exact .int _ _
    | 3, h, hu => cases h; cases hu; exact .int _ _
theorem Z52 : StZ Tryz.prog 52 [(.int .i64 0), (.int .i64 0), (.int .i64 0)] := by
  refine ⟨⟨_, Tryz.underlying52⟩, ti52, #[(.int .i64 0), (.int .i64 0), (.int .i64 0)], inf52, sz52, by kernel_rfl, fun w G => .agg _ _ rfl ?_ ?_⟩
  · intro j c h
    match j, h with
    | 0, h => cases h; rfl
    | 1, h => cases h; rfl
    | 2, h => cases h; rfl
  · intro j c u h hu
    match j, h, hu with
    | 0, h, hu => cases h; cases hu; exact .int _ _
    | 1, h, hu => cases h; cases hu; exact .int _ _
    | 2, h, hu => cases h; cases hu; exact .int _ _
theorem E97 : ElInfo Tryz.prog 97 52 3 24 (.agg [(.int .i64 0), (.int .i64 0), (.int .i64 0)]) := .of_struct Tryz.underlying97 Z52 (fun i h => by rw [inf52] at h; rw [← Option.some.inj h]; exact by52) (List.cons_ne_nil _ _)
theorem S52 : StInfo Tryz.prog 52 [(0, 1), (1, 1), (2, 1)] [(.int .i64 0), (.int .i64 0), (.int .i64 0)] := by
  refine ⟨⟨_, Tryz.underlying52⟩, #[(.int .i64 0), (.int .i64 0), (.int .i64 0)], fun l => by kernel_rfl, fun w G => .agg _ _ rfl ?_ ?_⟩
  · intro j c h
    match j, h with
    | 0, h => cases h; rfl
    | 1, h => cases h; rfl
    | 2, h => cases h; rfl
  · intro j c u h hu
    match j, h, hu with
    | 0, h, hu => cases h; cases hu; exact .int _ _
    | 1, h, hu => cases h; cases hu; exact .int _ _
    | 2, h, hu => cases h; cases hu; exact .int _ _
theorem Z57 : StZ Tryz.prog 57 [(.int .i64 0), (.sl none 2 [])] := by
  refine ⟨⟨_, Tryz.underlying57⟩, ti57, #[(.int .i64 0), (.slice none 0 0)], inf57, sz57, by kernel_rfl, fun w G => .agg _ _ rfl ?_ ?_⟩
  · intro j c h
    match j, h with
    | 0, h => cases h; rfl
    | 1, h => cases h; rfl
  · intro j c u h hu
    match j, h, hu with
    | 0, h, hu => cases h; cases hu; exact .int _ _
    | 1, h, hu => cases h; cases hu; exact .nilsl _ _ (by decide)
theorem E31 : ElInfo Tryz.prog 31 57 2 32 (.agg [(.int .i64 0), (.sl none 2 [])]) := .of_struct Tryz.underlying31 Z57 (fun i h => by rw [inf57] at h; rw [← Option.some.inj h]; exact by57) (List.cons_ne_nil _ _)
theorem Z102 : StZ Tryz.prog 102 [(.int .i64 0), (.int .i64 0)] := by
  refine ⟨⟨_, Tryz.underlying102⟩, ti102, #[(.int .i64 0), (.int .i64 0)], inf102, sz102, by kernel_rfl, fun w G => .agg _ _ rfl ?_ ?_⟩
  · intro j c h
    match j, h with
    | 0, h => cases h; rfl
    | 1, h => cases h; rfl
  · intro j c u h hu
    match j, h, hu with
    | 0, h, hu => cases h; cases hu; exact .int _ _
    | 1, h, hu => cases h; cases hu; exact .int _ _
theorem E55 : ElInfo Tryz.prog 55 102 2 16 (.agg [(.int .i64 0), (.int .i64 0)]) := .of_struct Tryz.underlying55 Z102 (fun i h => by rw [inf102] at h; rw [← Option.some.inj h]; exact by102) (List.cons_ne_nil _ _)
theorem Z118 : StZ Tryz.prog 118 [(.int .i64 0), (.sl none 2 [])] := by
  refine ⟨⟨_, Tryz.underlying118⟩, ti118, #[(.int .i64 0), (.slice none 0 0)], inf118, sz118, by kernel_rfl, fun w G => .agg _ _ rfl ?_ ?_⟩
  · intro j c h
    match j, h with
    | 0, h => cases h; rfl
    | 1, h => cases h; rfl
  · intro j c u h hu
    match j, h, hu with
    | 0, h, hu => cases h; cases hu; exact .int _ _
    | 1, h, hu => cases h; cases hu; exact .nilsl _ _ (by decide)
theorem E24 : ElInfo Tryz.prog 24 118 2 32 (.agg [(.int .i64 0), (.sl none 2 [])]) := .of_struct Tryz.underlying24 Z118 (fun i h => by rw [inf118] at h; rw [← Option.some.inj h]; exact by118) (List.cons_ne_nil _ _)
theorem S126 : StInfo Tryz.prog 126 [] [] := by
  refine ⟨⟨_, Tryz.underlying126⟩, #[], fun l => by kernel_rfl, fun w G => .agg _ _ rfl ?_ ?_⟩
  · intro j c h; simp at h
  · intro j c u h hu; simp at h
theorem Z128 : StZ Tryz.prog 128 [(.int .i64 0), (.int .i64 0), (.int .i64 0), (.int .i64 0)] := by
  refine ⟨⟨_, Tryz.underlying128⟩, ti128, #[(.int .i64 0), (.int .i64 0), (.int .i64 0), (.int .i64 0)], inf128, sz128, by kernel_rfl, fun w G => .agg _ _ rfl ?_ ?_⟩
  · intro j c h
    match j, h with
    | 0, h => cases h; rfl
    | 1, h => cases h; rfl
    | 2, h => cases h; rfl
    | 3, h => cases h; rfl
  · intro j c u h hu
    match j, h, hu with
    | 0, h, hu => cases h; cases hu; exact .int _ _
    | 1, h, hu => cases h; cases hu; exact .int _ _
    | 2, h, hu => cases h; cases hu; exact .int _ _
    | 3, h, hu => cases h; cases hu; exact .int _ _
theorem S128 : StInfo Tryz.prog 128 [(0, 1), (1, 3)] [(.int .i64 0), (.int .i64 0), (.int .i64 0), (.int .i64 0)] := by
  refine ⟨⟨_, Tryz.underlying128⟩, #[(.int .i64 0), (.int .i64 0), (.int .i64 0), (.int .i64 0)], fun l => by kernel_rfl, fun w G => .agg _ _ rfl ?_ ?_⟩
  · intro j c h
    match j, h with
    | 0, h => cases h; rfl
    | 1, h => cases h; rfl
    | 2, h => cases h; rfl
    | 3, h => cases h; rfl
  · intro j c u h hu
    match j, h, hu with
    | 0, h, hu => cases h; cases hu; exact .int _ _
    | 1, h, hu => cases h; cases hu; exact .int _ _
    | 2, h, hu => cases h; cases hu; exact .int _ _
    | 3, h, hu => cases h; cases hu; exact .int _ _
theorem S130 : StInfo Tryz.prog 130 [(0, 4)] [(.int .i64 0), (.int .i64 0), (.int .i64 0), (.int .i64 0)] := by
  refine ⟨⟨_, Tryz.underlying130⟩, #[(.int .i64 0), (.int .i64 0), (.int .i64 0), (.int .i64 0)], fun l => by kernel_rfl, fun w G => .agg _ _ rfl ?_ ?_⟩
  · intro j c h
    match j, h with
    | 0, h => cases h; rfl
    | 1, h => cases h; rfl
    | 2, h => cases h; rfl
    | 3, h => cases h; rfl
  · intro j c u h hu
    match j, h, hu with
    | 0, h, hu => cases h; cases hu; exact .int _ _
    | 1, h, hu => cases h; cases hu; exact .int _ _
    | 2, h, hu => cases h; cases hu; exact .int _ _
    | 3, h, hu => cases h; cases hu; exact .int _ _
theorem S131 : StInfo Tryz.prog 131 [(0, 4)] [(.int .i64 0), (.int .i64 0), (.int .i64 0), (.int .i64 0)] := by
  refine ⟨⟨_, Tryz.underlying131⟩, #[(.int .i64 0), (.int .i64 0), (.int .i64 0), (.int .i64 0)], fun l => by kernel_rfl, fun w G => .agg _ _ rfl ?_ ?_⟩
  · intro j c h
    match j, h with
    | 0, h => cases h; rfl
    | 1, h => cases h; rfl
    | 2, h => cases h; rfl
    | 3, h => cases h; rfl
  · intro j c u h hu
    match j, h, hu with
    | 0, h, hu => cases h; cases hu; exact .int _ _
    | 1, h, hu => cases h; cases hu; exact .int _ _
    | 2, h, hu => cases h; cases hu; exact .int _ _
    | 3, h, hu => cases h; cases hu; exact .int _ _
theorem S133 : StInfo Tryz.prog 133 [(0, 4)] [(.int .i64 0), (.int .i64 0), (.int .i64 0), (.int .i64 0)] := by
  refine ⟨⟨_, Tryz.underlying133⟩, #[(.int .i64 0), (.int .i64 0), (.int .i64 0), (.int .i64 0)], fun l => by kernel_rfl, fun w G => .agg _ _ rfl ?_ ?_⟩
  · intro j c h
    match j, h with
    | 0, h => cases h; rfl
    | 1, h => cases h; rfl
    | 2, h => cases h; rfl
    | 3, h => cases h; rfl
  · intro j c u h hu
    match j, h, hu with
    | 0, h, hu => cases h; cases hu; exact .int _ _
    | 1, h, hu => cases h; cases hu; exact .int _ _
    | 2, h, hu => cases h; cases hu; exact .int _ _
    | 3, h, hu => cases h; cases hu; exact .int _ _
theorem S134 : StInfo Tryz.prog 134 [(0, 4)] [(.int .i64 0), (.int .i64 0), (.int .i64 0), (.int .i64 0)] := by
  refine ⟨⟨_, Tryz.underlying134⟩, #[(.int .i64 0), (.int .i64 0), (.int .i64 0), (.int .i64 0)], fun l => by kernel_rfl, fun w G => .agg _ _ rfl ?_ ?_⟩
  · intro j c h
    match j, h with
    | 0, h => cases h; rfl
    | 1, h => cases h; rfl
    | 2, h => cases h; rfl
    | 3, h => cases h; rfl
  · intro j c u h hu
    match j, h, hu with
    | 0, h, hu => cases h; cases hu; exact .int _ _
    | 1, h, hu => cases h; cases hu; exact .int _ _
    | 2, h, hu => cases h; cases hu; exact .int _ _
    | 3, h, hu => cases h; cases hu; exact .int _ _
theorem Z157 : StZ Tryz.prog 157 [(.int .i64 0), (.int .i64 0), (.int .i64 0)] := by
  refine ⟨⟨_, Tryz.underlying157⟩, ti157, #[(.int .i64 0), (.int .i64 0), (.int .i64 0)], inf157, sz157, by kernel_rfl, fun w G => .agg _ _ rfl ?_ ?_⟩
  · intro j c h
    match j, h with
    | 0, h => cases h; rfl
    | 1, h => cases h; rfl
    | 2, h => cases h; rfl
  · intro j c u h hu
    match j, h, hu with
    | 0, h, hu => cases h; cases hu; exact .int _ _
    | 1, h, hu => cases h; cases hu; exact .int _ _
    | 2, h, hu => cases h; cases hu; exact .int _ _
theorem E114 : ElInfo Tryz.prog 114 157 3 24 (.agg [(.int .i64 0), (.int .i64 0), (.int .i64 0)]) := .of_struct Tryz.underlying114 Z157 (fun i h => by rw [inf157] at h; rw [← Option.some.inj h]; exact by157) (List.cons_ne_nil _ _)
theorem Z170 : StZ Tryz.prog 170 [(.int .i64 0), (.int .i64 0)] := by
  refine ⟨⟨_, Tryz.underlying170⟩, ti170, #[(.int .i64 0), (.int .i64 0)], inf170, sz170, by kernel_rfl, fun w G => .agg _ _ rfl ?_ ?_⟩
  · intro j c h
    match j, h with
    | 0, h => cases h; rfl
    | 1, h => cases h; rfl
  · intro j c u h hu
    match j, h, hu with
    | 0, h, hu => cases h; cases hu; exact .int _ _
    | 1, h, hu => cases h; cases hu; exact .int _ _
theorem E116 : ElInfo Tryz.prog 116 170 2 16 (.agg [(.int .i64 0), (.int .i64 0)]) := .of_struct Tryz.underlying116 Z170 (fun i h => by rw [inf170] at h; rw [← Option.some.inj h]; exact by170) (List.cons_ne_nil _ _)
end Go.Vl
