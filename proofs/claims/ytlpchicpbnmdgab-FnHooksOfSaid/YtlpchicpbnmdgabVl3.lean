/- Part 3 of the texts that the proof of FnHooksOf is built on. -/
import Derived.Test.YtlpchicpbnmdgabVl2
import Derived.Deep.MidRow
import Derived.Laws.StructEq
import Derived.MapKept
/- Loops in which most slots, and perhaps all rows, stay as they are. -/
namespace Go.Vl
set_option linter.unusedVariables false
set_option linter.unusedSimpArgs false
open Go.RowKit

section
variable {P : Program} {C : Ctx} {Q : Go.Exit → St → Prop} {s : St}

/-- What a round of such a loop must come to. -/
def againF (N : Nat) (Lf Lv : List Nat) (k : Nat) (F : List SV) (R : List Row) (I : Nat → List SV → Prop) (n : Nat) (s' : St) : Prop :=
  again N (Lf ++ Lv) k (fun m us rows => (us.take Lf.length = F ∧ rows = R) ∧ I m (us.drop Lf.length)) n s'
def againV (N : Nat) (Lf Lv : List Nat) (k : Nat) (F : List SV) (I : Nat → List SV → List Row → Prop) (n : Nat) (s' : St) : Prop :=
  again N (Lf ++ Lv) k (fun m us rows => us.take Lf.length = F ∧ I m (us.drop Lf.length) rows) n s'

/-- A loop whose slots Lf stay as they are, F, and its rows R; the slots Lv turn. -/
theorem vc_loopF {c : Code} (Lf Lv : List Nat) (F : List SV) (R : List Row) (I : Nat → List SV → Prop) (n0 : Nat) (hF : (Lf.map fun t => look s.env t) = F) (hR : s.rows = R) (hnb : C.nb ≤ R.length)
    (hb0 : F.all (SV.bdd R.length) = true ∧ (Lv.map fun t => look s.env t).all (SV.bdd R.length) = true ∧ R.all (Row.bdd R.length) = true)
    (h0 : I n0 (Lv.map fun t => look s.env t))
    (hround : ∀ n vs, vs.length = Lv.length → I n vs → VC P C c (thn (againF s.n Lf Lv R.length F R I n) Q) ⟨s.n, Lf.zip F ++ Lv.zip vs, R⟩) :
    VC P C (.loop c) Q s := by
  subst hR
  subst hF
  have hl : (Lf.map fun t => look s.env t).length = Lf.length := by simp
  refine vc_loop (Lf ++ Lv) (fun m us rows => (us.take Lf.length = (Lf.map fun t => look s.env t) ∧ rows = s.rows) ∧ I m (us.drop Lf.length)) n0 hnb ⟨?_, hb0.2.2⟩ ⟨⟨?_, rfl⟩, ?_⟩ ?_
  · rw [List.map_append, List.all_append, hb0.1, hb0.2.1]; rfl
  · rw [List.map_append]; simp
  · rw [List.map_append, show Lf.length = (Lf.map fun t => look s.env t).length from hl.symm, List.drop_left]; exact h0
  · rintro n vs rows hv - ⟨⟨h1, rfl⟩, h2⟩
    have hv' : vs.length = Lf.length + Lv.length := by simpa using hv
    have := hround n (vs.drop Lf.length) (by simp; omega) h2
    have e : (Lf ++ Lv).zip vs = Lf.zip (Lf.map fun t => look s.env t) ++ Lv.zip (vs.drop Lf.length) := by
      rw [← h1]
      conv => lhs; rw [← List.take_append_drop Lf.length vs]
      exact List.zip_append (by simp; omega)
    rw [e]
    exact this

theorem againF_mk {N : Nat} {Lf Lv : List Nat} {k : Nat} {F : List SV} {R : List Row} {I : Nat → List SV → Prop} {n : Nat} {s' : St} (h0 : Nat.beq s'.n N = true) (h1 : Nat.ble k s'.rows.length = true)
    (h2 : ((Lf ++ Lv).map fun t => look s'.env t).all (SV.bdd k) = true) (h3 : (s'.rows.take k).all (Row.bdd k) = true)
    (hF : (Lf.map fun t => look s'.env t) = F) (hR : s'.rows.take k = R)
    (h : ∃ n', n' < n ∧ I n' (Lv.map fun t => look s'.env t)) : againF N Lf Lv k F R I n s' := by
  refine ⟨⟨Nat.eq_of_beq_eq_true h0, Nat.le_of_ble_eq_true h1, h2, h3⟩, ?_⟩
  obtain ⟨n', hn, hI⟩ := h
  refine ⟨n', hn, ⟨?_, hR⟩, ?_⟩
  · rw [List.map_append, ← hF]; simp
  · rw [List.map_append, show Lf.length = (Lf.map fun t => look s'.env t).length by simp, List.drop_left]; exact hI

end
end Go.Vl

/- Structs as values: variables of their own, loads and stores of whole ones, their fields, and functions that hand them back. -/
namespace Go.Vl
set_option linter.unusedVariables false
set_option linter.unusedSimpArgs false
open Go.RowKit

/-- A struct's cells, its zero value. -/
structure StZ (P : Program) (S : TypeId) (zs : List PV) : Prop where
  und : ∃ fs, P.underlying S = some (.struct fs)
  inf : ∃ i zc, P.info? S = some i ∧ i.size = zs.length ∧ i.zero = some (.agg zc) ∧ ∀ w G, RP w G (.agg zs) (.agg zc)

/-- The values of a variable's cells. -/
def collectC : List SV → Option (Bool × List PV)
  | [] => some (true, [])
  | .pv f p :: r => match collectC r with
    | some (f', ps) => some ((f || p.scal) && f', p :: ps)
    | none => none
  | _ :: _ => none

theorem collectC_get : ∀ {l : List SV} {f : Bool} {ps : List PV}, collectC l = some (f, ps) → l.length = ps.length ∧ ∀ (j : Nat) (p : PV), ps[j]? = some p → ∃ g, l[j]? = some (.pv g p) ∧ (f = true → (g || p.scal) = true)
  | [], f, ps, h => by simp [collectC] at h; obtain ⟨rfl, rfl⟩ := h; exact ⟨rfl, fun j p hp => by simp at hp⟩
  | .pv g p :: r, f, ps, h => by
    simp only [collectC] at h
    split at h
    · rename_i f' ps' hr
      simp at h
      obtain ⟨rfl, rfl⟩ := h
      obtain ⟨h1, h2⟩ := collectC_get hr
      refine ⟨by simp [h1], fun j q hq => ?_⟩
      cases j with
      | zero => simp at hq; subst hq; exact ⟨g, rfl, fun h => by simp at h; simp [h.1]⟩
      | succ j =>
        obtain ⟨g', h3, h4⟩ := h2 j q (by simpa using hq)
        exact ⟨g', by simpa using h3, fun h => by simp only [Bool.and_eq_true] at h; exact h4 h.2⟩
    · cases h
  | .ref _ :: _, _, _, h => by simp [collectC] at h
  | .ptr _ _ _ _ :: _, _, _, h => by simp [collectC] at h
  | .adr _ _ :: _, _, _, h => by simp [collectC] at h
  | .tup _ :: _, _, _, h => by simp [collectC] at h
  | .und :: _, _, _, h => by simp [collectC] at h
  | .any :: _, _, _, h => by simp [collectC] at h

theorem RP.notAgg {w : World} {G : Nat → Prop} {p : PV} {v : Value} (h : RP w G p v) (h1 : v.oneCell' = true) : p.isAgg = false := by
  cases h <;> first | rfl | simp [Value.oneCell'] at h1

theorem RP.flag {w : World} {G : Bool → Nat → Prop} (hw : ∀ b, G true b → G false b) {g f : Bool} {p : PV} {v : Value} (h : RP w (G g) p v) (hf : f = true → (g || p.scal) = true) : RP w (G f) p v := by
  cases hsc : p.scal with
  | true => exact h.scal_any hsc
  | false =>
    cases f with
    | true => have := hf rfl; rw [hsc] at this; simp at this; subst this; exact h
    | false =>
      cases g with
      | true => exact h.mono fun b hb => ⟨hw b hb, rfl⟩
      | false => exact h

section
variable {P : Program} {C : Ctx} {Q : Go.Exit → St → Prop} {s : St} {ops : Array Oper} {rest : List Oper} {t : Nat} {ty : TypeId} {pos : String} {af : Array Edge}

theorem vo_alloc {S : TypeId} {zs : List PV} (hZ : StZ P S zs) (ht : Nat.blt t s.n = true)
    (next : VO P C ops rest Q ⟨s.n, (t, .ptr s.rows.length 0 0 0) :: s.env, s.rows ++ [.var S (zs.map fun c => .pv true c)]⟩) :
    VO P C ops (⟨some t, .alloc S, ty, pos, af, none⟩ :: rest) Q s := by
  refine vo_value (s1 := { s with rows := s.rows ++ [.var S (zs.map fun c => .pv true c)] }) (sv := .ptr s.rows.length 0 0 0) ht (fun m a w hs => ?_) next
  obtain ⟨_, i, zc, hi, hsz, hz, hr⟩ := hZ
  have hrp := hr w (fun _ => False)
  have hlen : zc.size = zs.length := by cases hrp with | agg _ _ hl => exact hl
  have hadd := hs.addRow (w' := w.alloc (.cells zc S)) (World.grownBy_alloc w _ none) (.var S (zs.map fun c => .pv true c)) (.of <| .pointer (some ⟨w.heap.size, 0, none⟩))
    (fun b hb => by simp [MV.of, blk] at hb; omega) (fun hG => .var w.heap.size S _ zc (heap_alloc_new w _) (by simpa using hlen) (fun j c u hc hu => by
      simp only [List.getElem?_map, Option.map_eq_some_iff] at hc
      obtain ⟨c', hc', rfl⟩ := hc
      have := hr (w.alloc (.cells zc S)) (Gd C (s.rows ++ [.var S (zs.map fun c => .pv true c)]) (updM m s.rows.length (.of <| .pointer (some ⟨w.heap.size, 0, none⟩))) (w.alloc (.cells zc S)) true)
      cases this with
      | agg _ _ _ _ h => exact .pv _ _ _ (h j c' u hc' hu)) (fun j u hu => by
      cases hrp with
      | agg _ _ hl h1 h =>
        have hj : j < zs.length := by rw [← hl]; exact (Array.getElem?_eq_some_iff.1 hu).1
        have hc := List.getElem?_eq_getElem hj
        exact (h j _ u hc hu).oneCell (h1 j _ hc)))
  refine ⟨.pointer (some ⟨w.heap.size, 0, none⟩), _, _, ?_, hadd.1, ?_⟩
  · simp [execOp, Instr.alloc, zeroValue, typeInfo, hi, hz, newVar, newRow, Value.cells]
  · exact .ptr s.rows.length 0 0 0 w.heap.size (by simp) (by rw [updM_same]; rfl)

/-- The cells of a variable, as they lie. -/
theorem SimM.var {m : Nat → MV} {a : Act} {w : World} (h : SimM C s m a w) {x : Operand} {id e i o R : Nat} {cs : List SV} (hx : getO s.env x = .ptr id e i o) (hrow : s.rows[id]? = some (.var R cs)) :
    ∃ (b : Nat) (cur : Array Value), a.eval x = .pointer (some ⟨b, i * e + o, none⟩) ∧ (m id) = .of (.pointer (some ⟨b, 0, none⟩)) ∧ w.heap[b]? = some (.cells cur R (0, 0)) ∧ cur.size = cs.length ∧
      (∀ (j : Nat) (c : SV) (u : Value), cs[j]? = some c → cur[j]? = some u → RS w (Gd C s.rows m w) m s.rows.length c u) ∧ ∀ (j : Nat) (u : Value), cur[j]? = some u → u.oneCell' = true := by
  obtain ⟨b, hv, hb, hid⟩ := h.ptr hx
  have hR := h.rows id _ hrow
  generalize hmv : m id = v at *
  cases hR with
  | var b' t' cs cur hbk hl hr h1 =>
    simp only [MV.of, blk, Option.some.injEq] at hb
    subst hb
    exact ⟨b', cur, hv, rfl, hbk, hl, hr, h1⟩

theorem load_cells {m : Nat → MV} {a : Act} {w : World} (h : SimM C s m a w) {x : Operand} {T id e i o R n : Nat} {cs : List SV} {f : Bool} {ps : List PV} {D : TypeDesc} {inf : TypeInfo} (hx : getO s.env x = .ptr id e i o) (hrow : s.rows[id]? = some (.var R cs))
    (hT : P.underlying T = some D) (hD : D.isRow = true) (hinf : P.info? T = some inf) (hsz : inf.size = n) (hle : i * e + o + n ≤ cs.length) (hps : collectC ((cs.drop (i * e + o)).take n) = some (f, ps)) :
    ∃ vs : Array Value, (∀ w', ExtW w w' → (Instr.loadAt T (a.eval x)).run P w' = .ok (.agg vs) w') ∧ RP w (Gd C s.rows m w f) (.agg ps) (.agg vs) := by
  obtain ⟨b, cur, hv, _, hbk, hl, hr, h1⟩ := h.var hx hrow
  obtain ⟨c1, c2⟩ := collectC_get hps
  have hn : ps.length = n := by rw [← c1]; simp; omega
  have hget : ∀ j, ((cur.toList.drop (i * e + o)).take n)[j]? = if j < n then cur[i * e + o + j]? else none := by
    intro j
    rw [List.getElem?_take]
    split
    · rw [List.getElem?_drop]; simp
    · rfl
  refine ⟨((cur.toList.drop (i * e + o)).take n).toArray, fun w' hw' => ?_, ?_⟩
  · rw [hv]
    refine run_loadAt_mid w' b (i * e + o) T _ D (fun j v hj => ?_) hT hD (by rw [hinf]; simp [hsz]; omega)
    rw [hget] at hj
    split at hj
    · exact hw'.cell (by rw [cell_of_row w b _ cur R (0, 0) hbk]; exact hj)
    · cases hj
  · refine .agg ps _ (by simp; omega) (fun j c hc => ?_) (fun j c u hc hu => ?_)
    · obtain ⟨g, h3, _⟩ := c2 j c hc
      have hj : j < n := by rw [← hn]; exact (List.getElem?_eq_some_iff.1 hc).1
      rw [List.getElem?_take, if_pos hj, List.getElem?_drop] at h3
      have hlt : i * e + o + j < cur.size := by omega
      have hu := Array.getElem?_eq_getElem hlt
      exact (hr _ _ _ h3 hu).pv_inv.notAgg (h1 _ _ hu)
    · obtain ⟨g, h3, h4⟩ := c2 j c hc
      have hj : j < n := by rw [← hn]; exact (List.getElem?_eq_some_iff.1 hc).1
      rw [List.getElem?_take, if_pos hj, List.getElem?_drop] at h3
      have hu : ((cur.toList.drop (i * e + o)).take n)[j]? = some u := by simpa using hu
      rw [hget, if_pos hj] at hu
      exact RP.flag (G := Gd C s.rows m w) (fun b hb => hb.weak) (hr _ _ _ h3 hu).pv_inv h4

/-- A struct is read from a variable. -/
theorem lt_load_varS {x : Operand} {T id e i o R n : Nat} {cs : List SV} {f : Bool} {ps : List PV} {D : TypeDesc} {inf : TypeInfo} (hx : getO s.env x = .ptr id e i o) (hrow : s.rows[id]? = some (.var R cs))
    (hT : P.underlying T = some D) (hD : D.isRow = true) (hinf : P.info? T = some inf) (hsz : inf.size = n) (hle : Nat.ble (i * e + o + n) cs.length = true) (hps : collectC ((cs.drop (i * e + o)).take n) = some (f, ps)) :
    Lt P C s ⟨some t, .load T x, ty, pos, af, none⟩ (.pv f (.agg ps)) := by
  intro m a w hs
  obtain ⟨vs, h1, h2⟩ := load_cells hs hx hrow hT hD hinf hsz (Nat.le_of_ble_eq_true hle) hps
  exact ⟨.agg vs, fun w' hw' => by simp [execOp, h1 w' hw'], .pv _ _ _ h2⟩

theorem vo_load_varS {x : Operand} {T id e i o R n : Nat} {cs : List SV} {f : Bool} {ps : List PV} {D : TypeDesc} {inf : TypeInfo} (ht : Nat.blt t s.n = true) (hx : getO s.env x = .ptr id e i o) (hrow : s.rows[id]? = some (.var R cs))
    (hT : P.underlying T = some D) (hD : D.isRow = true) (hinf : P.info? T = some inf) (hsz : inf.size = n) (hle : Nat.ble (i * e + o + n) cs.length = true) (hps : collectC ((cs.drop (i * e + o)).take n) = some (f, ps))
    (next : VO P C ops rest Q (s.put t (.pv f (.agg ps)))) : VO P C ops (⟨some t, .load T x, ty, pos, af, none⟩ :: rest) Q s := vo_pure ht (lt_load_varS hx hrow hT hD hinf hsz hle hps) next

/-- A struct is read where nobody writes any more. -/
theorem lt_load_adrS {x : Operand} {T n : Nat} {cs : List PV} {f : Bool} {D : TypeDesc} {inf : TypeInfo} (hx : getO s.env x = .adr f cs)
    (hT : P.underlying T = some D) (hD : D.isRow = true) (hinf : P.info? T = some inf) (hsz : inf.size = n) (hle : Nat.ble n cs.length = true) :
    Lt P C s ⟨some t, .load T x, ty, pos, af, none⟩ (.pv f (.agg (cs.take n))) := by
  intro m a w hs
  have hle := Nat.le_of_ble_eq_true hle
  have hv := hs.get x
  rw [hx] at hv
  generalize hav : a.eval x = v at hv
  cases hv with
  | adr _ _ ad fv hsp hg h1 hc hr =>
    have e0 : ad = ⟨ad.block, ad.off, none⟩ := by obtain ⟨b, o, sp⟩ := ad; simp only at hsp; subst hsp; rfl
    have hlen : ((List.range n).map fv).length = n := by simp
    refine ⟨.agg ((List.range n).map fv).toArray, fun w' hw' => ?_, ?_⟩
    · have := run_loadAt_mid (P := P) w' ad.block ad.off T ((List.range n).map fv) D (fun j u hj => ?_) hT hD (by rw [hinf]; simp [hsz])
      · rw [e0] at hav
        simp [execOp, hav, this]
      · have hjn : j < n := by rw [← hlen]; exact (List.getElem?_eq_some_iff.1 hj).1
        simp [hjn] at hj
        subst hj
        exact hw'.cell (hc j _ (List.getElem?_eq_getElem (by omega)))
    · refine .pv _ _ _ (.agg _ _ (by simp; omega) (fun j c hj => ?_) (fun j c u hj hu => ?_))
      · rw [List.getElem?_take] at hj
        split at hj
        · exact h1 j c hj
        · cases hj
      · rw [List.getElem?_take] at hj
        split at hj
        · rename_i hjn
          simp [hjn] at hu
          subst hu
          exact hr j c hj
        · cases hj

theorem vo_load_adrS {x : Operand} {T n : Nat} {cs : List PV} {f : Bool} {D : TypeDesc} {inf : TypeInfo} (ht : Nat.blt t s.n = true) (hx : getO s.env x = .adr f cs)
    (hT : P.underlying T = some D) (hD : D.isRow = true) (hinf : P.info? T = some inf) (hsz : inf.size = n) (hle : Nat.ble n cs.length = true)
    (next : VO P C ops rest Q (s.put t (.pv f (.agg (cs.take n))))) : VO P C ops (⟨some t, .load T x, ty, pos, af, none⟩ :: rest) Q s := vo_pure ht (lt_load_adrS hx hT hD hinf hsz hle) next

/-- A field of one cell. -/
theorem lt_field1 {x : Operand} {S k : Nat} {cs : List PV} {c : PV} {f : Bool} {fs : Array Field} {fd : Field} {D : TypeDesc} (hx : getO s.env x = .pv f (.agg cs)) (hS : P.underlying S = some (.struct fs)) (hk : fs[k]? = some fd)
    (hT : P.underlying fd.type = some D) (hD : D.isRow = false) (hc : cs[fd.offset]? = some c) :
    Lt P C s ⟨some t, .field S x k, ty, pos, af, none⟩ (.pv (f || c.scal) c) := by
  intro m a w hs
  have hv := hs.get x
  rw [hx] at hv
  have hv := hv.pv_inv
  generalize hav : a.eval x = v at hv
  cases hv with
  | agg _ vs hl h1 h =>
    have hlt : fd.offset < vs.size := by rw [hl]; exact (List.getElem?_eq_some_iff.1 hc).1
    have hu := Array.getElem?_eq_getElem hlt
    refine ⟨vs[fd.offset], fun w' _ => ?_, ?_⟩
    · have hagg : (isAgg fd.type).run P w' = .ok false w' := by
        cases D <;> simp_all [isAgg, run_underlying hT]
      simp [execOp, hav, Instr.field, run_underlying hS, hk, asAgg, part, hagg, hu]
    · have hp := h _ c _ hc hu
      cases hsc : c.scal with
      | true => simp only [Bool.or_true]; exact .pv _ _ _ (hp.scal_any hsc)
      | false => simp only [Bool.or_false]; exact .pv _ _ _ hp

theorem vo_field1 {x : Operand} {S k : Nat} {cs : List PV} {c : PV} {f : Bool} {fs : Array Field} {fd : Field} {D : TypeDesc} (ht : Nat.blt t s.n = true) (hx : getO s.env x = .pv f (.agg cs)) (hS : P.underlying S = some (.struct fs)) (hk : fs[k]? = some fd)
    (hT : P.underlying fd.type = some D) (hD : D.isRow = false) (hc : cs[fd.offset]? = some c)
    (next : VO P C ops rest Q (s.put t (.pv (f || c.scal) c))) : VO P C ops (⟨some t, .field S x k, ty, pos, af, none⟩ :: rest) Q s := vo_pure ht (lt_field1 hx hS hk hT hD hc) next

/-- A struct is written into a variable. -/
theorem vo_store_varS {x y : Operand} {T id e i o R : Nat} {cs : List SV} {f : Bool} {ps : List PV} {inf : TypeInfo} (hx : getO s.env x = .ptr id e i o) (hrow : s.rows[id]? = some (.var R cs))
    (hy : getO s.env y = .pv f (.agg ps)) (hinf : P.info? T = some inf) (hsz : inf.size = ps.length) (hle : Nat.ble (i * e + o + ps.length) cs.length = true)
    (next : VO P C ops rest Q ⟨s.n, s.env, s.rows.set id (.var R (cs.take (i * e + o) ++ ps.map (fun p => .pv (f || p.scal) p) ++ cs.drop (i * e + o + ps.length)))⟩) :
    VO P C ops (⟨none, .store T x y, ty, pos, af, none⟩ :: rest) Q s := by
  refine vo_unit (s1 := { s with rows := s.rows.set id (.var R (cs.take (i * e + o) ++ ps.map (fun p => .pv (f || p.scal) p) ++ cs.drop (i * e + o + ps.length))) }) (fun m a w hs => ?_) next
  have hle := Nat.le_of_ble_eq_true hle
  obtain ⟨b, cur, hv, hm, hbk, hl, hr, h1⟩ := hs.var hx hrow
  have hvy := hs.get y
  rw [hy] at hvy
  have hvy := hvy.pv_inv
  generalize hav : a.eval y = v at hvy
  cases hvy with
  | agg _ vs hvl h2 h =>
    have hone : ∀ u ∈ vs.toList, u.oneCell' = true := by
      intro u hu
      obtain ⟨j, hj⟩ := List.getElem?_of_mem hu
      have hjl : j < ps.length := by rw [← hvl]; simpa using (List.getElem?_eq_some_iff.1 hj).1
      have hc := List.getElem?_eq_getElem hjl
      exact (h j _ u hc (by simpa using hj)).oneCell (h2 j _ hc)
    have hrun := run_storeCells_at P b (i * e + o) R vs.toList 0 cur w hbk (by simp; omega) hone
    simp only [Nat.add_zero, Array.length_toList, hvl] at hrun
    let cur' := (cur.toList.take (i * e + o) ++ vs.toList ++ cur.toList.drop (i * e + o + ps.length)).toArray
    refine ⟨w.setRow b cur', m, ?_, ?_⟩
    · simp [execOp, Instr.storeAt, hv, hav, Instr.sureAddr, storeVar, sizeOf, typeInfo, hinf, hsz, Value.cells, hvl, hrun, cur']
    · refine hs.storeRow ⟨_, hrow, rfl⟩ (fun b' e => by cases e; rw [hm]; rfl) (grown_setRow w b cur') _ (fun hG => ?_)
      rw [hm]
      have hheap := setRow_heap w b cur cur' R _ hbk
      have hget : ∀ j, cur'[j]? = if j < i * e + o then cur[j]? else if j < i * e + o + ps.length then vs[j - (i * e + o)]? else cur[j]? := by
        intro j
        simp only [cur', List.getElem?_toArray]
        rw [List.getElem?_append, List.getElem?_append]
        simp only [List.length_append, List.length_take, Array.length_toList, hvl]
        have e1 : min (i * e + o) cur.size = i * e + o := by omega
        rw [e1]
        split
        · split
          · rw [List.getElem?_take, if_pos (by assumption)]; simp
          · simp
        · rw [List.getElem?_drop, show i * e + o + ps.length + (j - (i * e + o + ps.length)) = j by omega]; simp
      have hget2 : ∀ j, (cs.take (i * e + o) ++ ps.map (fun p => SV.pv (f || p.scal) p) ++ cs.drop (i * e + o + ps.length))[j]? = if j < i * e + o then cs[j]? else if j < i * e + o + ps.length then (ps.map (fun p => SV.pv (f || p.scal) p))[j - (i * e + o)]? else cs[j]? := by
        intro j
        rw [List.getElem?_append, List.getElem?_append]
        simp only [List.length_append, List.length_take, List.length_map]
        have e1 : min (i * e + o) cs.length = i * e + o := by omega
        rw [e1]
        split
        · split
          · rw [List.getElem?_take, if_pos (by assumption)]
          · rfl
        · rw [if_neg (by omega), List.getElem?_drop, show i * e + o + ps.length + (j - (i * e + o + ps.length)) = j by omega]
      refine .var b R _ cur' hheap (by simp [cur']; omega) (fun j c u hc hu => ?_) (fun j u hu => ?_)
      · rw [hget2] at hc
        rw [hget] at hu
        split at hc
        · rename_i h3; rw [if_pos h3] at hu; exact (hr j c u hc hu).mono hG (Nat.le_refl _) (fun _ _ => rfl)
        · rename_i h3
          rw [if_neg h3] at hu
          split at hc
          · rename_i h4
            rw [if_pos h4] at hu
            simp only [List.getElem?_map, Option.map_eq_some_iff] at hc
            obtain ⟨c', hc', rfl⟩ := hc
            have hp := h _ c' u hc' hu
            cases hsc : c'.scal with
            | true => simp only [Bool.or_true]; exact .pv _ _ _ (hp.scal_any hsc)
            | false => simp only [Bool.or_false]; exact .pv _ _ _ (hp.mono (hG f))
          · rename_i h4; rw [if_neg h4] at hu; exact (hr j c u hc hu).mono hG (Nat.le_refl _) (fun _ _ => rfl)
      · rw [hget] at hu
        split at hu
        · exact h1 j u hu
        · split at hu
          · exact hone u (by rw [Array.mem_toList_iff]; exact Array.mem_of_getElem? hu)
          · exact h1 j u hu
end
end Go.Vl

/- Functions that hand back structs: the way in, and what is handed back. -/
namespace Go.Vl
set_option linter.unusedVariables false
set_option linter.unusedSimpArgs false
open Go.RowKit

/-- What a result holds at a function's end. -/
def resSV (s : St) : Nat × Option (Nat × Nat) → SV
  | (t, none) => look s.env t
  | (a, some _) => match look s.env a with
    | .ptr id 0 0 0 => match s.rows[id]? with
      | some (.var _ cs) => match collectC cs with
        | some (f, ps) => .pv f (.agg ps)
        | none => .any
      | _ => .any
    | _ => .any

def resVar : Nat × Option (Nat × Nat) → ResultVar
  | (t, none) => .tmp t
  | (a, some (T, _)) => .cell a T

/-- Is the result there? -/
def resOK (s : St) : Nat × Option (Nat × Nat) → Bool
  | (_, none) => true
  | (a, some (_, n)) => match look s.env a with
    | .ptr id 0 0 0 => match s.rows[id]? with
      | some (.var _ cs) => Nat.beq cs.length n && (collectC cs).isSome
      | _ => false
    | _ => false

/-- The types of the results that lie in memory. -/
def resT (P : Program) : Nat × Option (Nat × Nat) → Prop
  | (_, none) => True
  | (_, some (T, n)) => ∃ D inf, P.underlying T = some D ∧ D.isRow = true ∧ P.info? T = some inf ∧ inf.size = n

def resM (tmps : Array Value) : ResultVar → Sem Value
  | .tmp t => pure (tmps.getD t undef)
  | .cell a t => do loadVar t (← asAddr (tmps.getD a undef))

theorem results_eq (fn : Func) (tmps : Array Value) : results fn tmps = (do
  let vs ← fn.results.mapM (resM tmps)
  pure (if h : vs.size = 1 then vs[0] else .tuple vs)) := by
  unfold results
  congr 1

theorem ElInfo.of_struct {P : Program} {T el by' : Nat} {zs : List PV} (hT : P.underlying T = some (.slice el)) (hZ : StZ P el zs) (hb : ∀ i, P.info? el = some i → i.bytes = by') (h0 : zs ≠ []) : ElInfo P T el zs.length by' (.agg zs) := by
  obtain ⟨_, i, zc, hi, hs, hz, hr⟩ := hZ
  have h := hr default (fun _ => False)
  cases h with
  | agg _ _ hl h1 h =>
    exact ⟨hT, ⟨i, .agg zc, hi, hs, hb i hi, hz, hl, hr⟩, ⟨rfl, h1⟩, List.length_pos_iff.2 h0⟩

section
variable {P : Program}

theorem resTs1 {r1 : Nat × Option (Nat × Nat)} (h1 : resT P r1) : ∀ r ∈ [r1], resT P r := by simp [h1]
theorem resTs2 {r1 r2 : Nat × Option (Nat × Nat)} (h1 : resT P r1) (h2 : resT P r2) : ∀ r ∈ [r1, r2], resT P r := by simp [h1, h2]
theorem resTs3 {r1 r2 r3 : Nat × Option (Nat × Nat)} (h1 : resT P r1) (h2 : resT P r2) (h3 : resT P r3) : ∀ r ∈ [r1, r2, r3], resT P r := by simp [h1, h2, h3]
/-- What is handed back at such a function's end: values alone; no new rows. -/
def retS (rs : List (Nat × Option (Nat × Nat))) (k : Nat) (R : List SV → List Row → Prop) (e : Go.Exit) (s : St) : Prop :=
  (e = .normal ∨ e = .ret) ∧ (k ≤ s.rows.length ∧ (rs.map (resSV s)).all (SV.bdd k) = true ∧ (s.rows.take k).all (Row.bdd k) = true ∧ rs.all (resOK s) = true) ∧ R (rs.map (resSV s)) (s.rows.take k)

end
end Go.Vl

/- Rows whose slices are their own: made, written, lent in part. -/
namespace Go.Vl
set_option linter.unusedVariables false
set_option linter.unusedSimpArgs false
open Go.RowKit

/-- No slice but the nil one. -/
def plainB : PV → Bool
  | .sl (some true) _ [] => true
  | p => p.scal

def plainX (xs : List PV) : Prop := ∀ x ∈ xs, ∀ c ∈ x.cells, plainB c = true
theorem plain_ints (l : List Int) : plainX (l.map intP) := by
  intro x hx c hc
  obtain ⟨n, _, rfl⟩ := List.mem_map.1 hx
  simp [PV.cells] at hc
  subst hc
  rfl
theorem plain_rep (n e : Nat) : plainX (List.replicate n (.sl (some true) e [])) := by
  intro x hx c hc
  rw [List.eq_of_mem_replicate hx] at hc
  simp [PV.cells] at hc
  subst hc
  rfl

theorem tp_plain {w : World} {G : Nat → Prop} {c : PV} {u : Value} (h : RP w G c u) (hp : plainB c = true) {S : Nat → Prop} (hS : ∀ b, ¬ S b) : TP w c u S := by
  cases c with
  | sl nl e xs =>
    have h0 : nl = some true ∧ xs = [] := by unfold plainB at hp; split at hp <;> simp_all [PV.scal]
    obtain ⟨rfl, rfl⟩ := h0
    cases h with
    | nilsl _ _ h =>
      have hSS : ∀ b, S b ↔ blk (.slice none 0 0) = some b ∨ ∃ q : Nat, (fun _ _ => False : Nat → Nat → Prop) q b := by
        intro b
        constructor
        · intro h; exact (hS b h).elim
        · rintro (h | ⟨_, h⟩)
          · simp [blk] at h
          · exact h.elim
      exact .sl 0 e (some true) [] _ [] (fun _ _ => False) S (World.ownsRow_nil w 0 0 e) (fun _ => rfl) (fun h => by cases h) (fun i x hx => by simp at hx) (fun i x j c u hx => by simp at hx) (fun _ _ _ h => h.elim) (fun _ _ h => h.elim) (fun _ _ _ h => h) hSS
    | sl nl e xs a len cap f h => exact (h rfl).elim
  | agg cs => simp [plainB, PV.scal] at hp
  | int k n => exact .scal _ _ S rfl (h.scal_any rfl) hS
  | bool b => exact .scal _ _ S rfl (h.scal_any rfl) hS
  | str b => exact .scal _ _ S rfl (h.scal_any rfl) hS
  | gone => simp [plainB, PV.scal] at hp
  | ifc t p => simp [plainB, PV.scal] at hp
  | nilifc => simp [plainB, PV.scal] at hp
  | fn => simp [plainB, PV.scal] at hp

theorem oneCell_cells {u : Value} (h : u.oneCell' = true) : u.cells.toList = [u] := by
  cases u <;> simp_all [Value.cells, Value.oneCell']

theorem TP.cells1 {w : World} {p : PV} {v : Value} {S : Nat → Prop} (h : TP w p v S) : p.cells = [p] := by
  cases h with
  | scal p v S hs => cases p <;> first | rfl | simp [PV.scal] at hs
  | sl => rfl
  | gone => rfl

theorem own_tp {w : World} {G : Bool → Nat → Prop} {m : Nat → MV} {N : Nat} {mv : MV} {t : TypeId} {e : Nat} {nl : Option Bool} {fr : Bool} {xs : List PV} (h : RowOK w G m N mv (.own t e nl fr xs)) (hp : plainX xs) :
    TP w (.sl nl e xs) mv.v mv.S ∧ RowOK w G m N mv (.tree t e nl none xs) := by
  cases h with
  | own v t e nl fr xs vs hown h1 h2 hw hr =>
    have key : ∀ (i : Nat) (x : PV) (j : Nat) (c : PV) (u : Value), xs[i]? = some x → x.cells[j]? = some c → vs[i * e + j]? = some u → TP w c u (fun _ => False) := by
      intro i x j c u hx hc hu
      obtain ⟨u', hu', hq⟩ := hr i x j c hx hc
      rw [hu] at hu'
      cases hu'
      exact tp_plain hq (hp x (List.mem_of_getElem? hx) c (List.mem_of_getElem? hc)) (fun _ h => h)
    have hS : ∀ b, (MV.of v).S b ↔ blk v = some b ∨ ∃ q : Nat, (fun _ _ => False : Nat → Nat → Prop) q b := fun b => ⟨.inl, fun h => h.elim id (fun ⟨_, h⟩ => h.elim)⟩
    exact ⟨.sl t e nl xs v vs (fun _ _ => False) _ hown h1 h2 hw key (fun _ _ _ h => h.elim) (fun _ _ h => h.elim) (fun _ _ _ h => h) hS,
      .tree (MV.of v) t e nl none xs vs (fun _ _ => False) hown h1 h2 hw (fun i x j c u hx hc hu => .inl (key i x j c u hx hc hu)) (fun _ _ _ h => h.elim) (fun _ _ h => h.elim) (fun _ _ _ h => h) hS (fun _ _ h => by cases h)⟩

section
variable {P : Program} {C : Ctx} {Q : Go.Exit → St → Prop} {s : St} {ops : Array Oper} {rest : List Oper} {t : Nat} {ty : TypeId} {pos : String} {af : Array Edge}

/-- A row without slices in it is one whose slices are its own. -/
theorem SimM.totree {m : Nat → MV} {a : Act} {w : World} (hs : SimM C s m a w) (id : Nat) {el e : Nat} {nl : Option Bool} {f : Bool} {xs : List PV} (hrow : s.rows[id]? = some (.own el e nl f xs)) (hp : plainX xs) :
    SimM C ⟨s.n, s.env, s.rows.set id (.tree el e nl none xs)⟩ m a w :=
  hs.storeRow (w' := w) (bo := none) ⟨_, hrow, rfl⟩ (fun _ e => by cases e) ⟨rfl, rfl, rfl, Nat.le_refl _, fun _ _ _ => rfl⟩ _ (fun hG =>
    RowOK.mono hG (Nat.le_refl _) (fun _ _ => rfl) (own_tp (hs.rows id _ hrow) hp).2 (fun _ _ _ => rfl))

theorem vc_totree {code : Code} (id : Nat) {el e : Nat} {nl : Option Bool} {f : Bool} {xs : List PV} (hrow : s.rows[id]? = some (.own el e nl f xs)) (hp : plainX xs)
    (next : VC P C code Q ⟨s.n, s.env, s.rows.set id (.tree el e nl none xs)⟩) : VC P C code Q s := fun a w ⟨m, hs⟩ => next a w ⟨m, hs.totree id hrow hp⟩
theorem vo_totree {l : List Oper} (id : Nat) {el e : Nat} {nl : Option Bool} {f : Bool} {xs : List PV} (hrow : s.rows[id]? = some (.own el e nl f xs)) (hp : plainX xs)
    (next : VO P C ops l Q ⟨s.n, s.env, s.rows.set id (.tree el e nl none xs)⟩) : VO P C ops l Q s := fun a w ⟨m, hs⟩ => next a w ⟨m, hs.totree id hrow hp⟩

theorem RS.killV1 {w w' : World} {G G' : Bool → Nat → Prop} {m m' : Nat → MV} {N id : Nat} (hG : ∀ fr b, G fr b → G' fr b ∧ w'.heap[b]? = w.heap[b]?)
    (hm : ∀ i, i ≠ id → (m' i).v = (m i).v) {sv : SV} {v : Value} (h : RS w G m N sv v) : RS w' G' m' N (sv.kill1 id) v := by
  cases h with
  | any v => exact .any v
  | val u => exact .val _
  | und => exact .und
  | pv fr p v h => exact .pv fr p v (h.mono (hG fr))
  | ref i hi =>
    simp only [SV.kill1]
    split
    · exact .any _
    · rename_i hne; rw [← hm i hne]; exact .ref i hi
  | ptr i e k o b hi hb =>
    simp only [SV.kill1]
    split
    · exact .any _
    · rename_i hne; exact .ptr i e k o b hi (by rw [hm i hne]; exact hb)
  | adr fr cs a f hsp hg h1 hc hr =>
    refine .adr fr cs a f hsp (fun hne => (hG fr _ (hg hne)).1) h1 (fun j c hj => ?_) (fun j c hj => (hr j c hj).mono (hG fr))
    have hne : cs ≠ [] := by intro h0; subst h0; simp at hj
    have := (hG fr _ (hg hne)).2
    rw [← hc j c hj]
    simp [World.cell?, this]
  | tup vs us hl h => exact .any _
  | ag vs us hl h h1 => exact .any _
  | sub i e l h c _ hid hs =>
    simp only [SV.kill1]
    split
    · exact .any _
    · rename_i hne; exact .sub i e l h c v hid (by rw [hm i hne]; exact hs)
  | clo f ids us hl h =>
    simp only [SV.kill1, cloK]
    cases h9 : memN id ids with
    | true => exact .any _
    | false =>
      refine .clo f ids us hl (fun j i u h1 h2 => ?_)
      obtain ⟨g1, b, g2, g3⟩ := h j i u h1 h2
      exact ⟨g1, b, by rw [hm i (fun e => by subst e; rw [memN_iff.2 (List.mem_of_getElem? h1)] at h9; cases h9)]; exact g2, g3⟩

theorem RS.killV {w w' : World} {G G' : Bool → Nat → Prop} {m m' : Nat → MV} {N id : Nat} (hG : ∀ fr b, G fr b → G' fr b ∧ w'.heap[b]? = w.heap[b]?)
    (hm : ∀ i, i ≠ id → (m' i).v = (m i).v) {sv : SV} {v : Value} (h : RS w G m N sv v) : RS w' G' m' N (sv.kill id) v := by
  cases h with
  | any v => exact .any v
  | val u => exact .val _
  | und => exact .und
  | pv fr p v h => exact .pv fr p v (h.mono (hG fr))
  | ref i hi =>
    simp only [SV.kill]
    split
    · exact .any _
    · rename_i hne; rw [← hm i hne]; exact .ref i hi
  | ptr i e k o b hi hb =>
    simp only [SV.kill]
    split
    · exact .any _
    · rename_i hne; exact .ptr i e k o b hi (by rw [hm i hne]; exact hb)
  | adr fr cs a f hsp hg h1 hc hr =>
    refine .adr fr cs a f hsp (fun hne => (hG fr _ (hg hne)).1) h1 (fun j c hj => ?_) (fun j c hj => (hr j c hj).mono (hG fr))
    have hne : cs ≠ [] := by intro h0; subst h0; simp at hj
    have := (hG fr _ (hg hne)).2
    rw [← hc j c hj]
    simp [World.cell?, this]
  | tup vs us hl h => exact .any _
  | ag vs us hl h h1 =>
    refine .ag _ us (by simpa using hl) (fun j c u hc hu => ?_) h1
    simp only [List.getElem?_map, Option.map_eq_some_iff] at hc
    obtain ⟨c', hc', rfl⟩ := hc
    exact (h j c' u hc' hu).killV1 hG hm
  | sub i e l h c _ hid hs =>
    simp only [SV.kill]
    split
    · exact .any _
    · rename_i hne; exact .sub i e l h c v hid (by rw [hm i hne]; exact hs)
  | clo f ids us hl h =>
    simp only [SV.kill, cloK]
    cases h9 : memN id ids with
    | true => exact .any _
    | false =>
      refine .clo f ids us hl (fun j i u h1 h2 => ?_)
      obtain ⟨g1, b, g2, g3⟩ := h j i u h1 h2
      exact ⟨g1, b, by rw [hm i (fun e => by subst e; rw [memN_iff.2 (List.mem_of_getElem? h1)] at h9; cases h9)]; exact g2, g3⟩

theorem RowOK.killV {w w' : World} {G G' : Bool → Nat → Prop} {m m' : Nat → MV} {N id : Nat} {v : MV} {r : Row} (hG : ∀ fr b, G fr b → G' fr b ∧ w'.heap[b]? = w.heap[b]?)
    (hm : ∀ i, i ≠ id → (m' i).v = (m i).v) (h : RowOK w G m N v r) (hb : r.live = true → ∀ b, v.S b → w'.heap[b]? = w.heap[b]?) : RowOK w' G' m' N v (r.kill id) := by
  cases h with
  | dead v => exact .dead v
  | own v t e nl fr xs vs hown h1 h2 hw hr =>
    refine .own v t e nl fr xs vs (ownsRow_blk hown (hb rfl)) h1 h2 hw (fun i x j c hx hc => ?_)
    obtain ⟨u, hu, hp⟩ := hr i x j c hx hc
    exact ⟨u, hu, hp.mono (hG fr)⟩
  | var b t cs cur hbk hl hr h1 =>
    refine .var b t _ cur (by rw [hb rfl b rfl]; exact hbk) (by simpa using hl) (fun j c u hc hu => ?_) h1
    simp only [List.getElem?_map, Option.map_eq_some_iff] at hc
    obtain ⟨c', hc', rfl⟩ := hc
    exact (hr j c' u hc' hu).killV hG hm
  | gh mv us cs hl h =>
    refine .gh _ us _ (by simpa using hl) (fun j c u hc hu => ?_)
    simp only [List.getElem?_map, Option.map_eq_some_iff] at hc
    obtain ⟨c', hc', rfl⟩ := hc
    exact (h j c' u hc' hu).killV hG hm
  | mp b g es clock hbk hm' => exact .mp b g es clock (by rw [hb rfl b rfl]; exact hbk) hm'
  | tree mv t e nl h xs vals Sf hown h1 h2 hw hr hd hn hz hS hkn =>
    exact .tree _ t e nl h xs vals Sf (ownsRow_blk hown fun b h => hb rfl b ((hS b).2 (.inl h))) h1 h2 hw
      (fun i x j c u hx hc hu => (hr i x j c u hx hc hu).mono fun b h => hb rfl b ((hS b).2 (.inr ⟨_, h⟩))) hd hn hz hS hkn

/-- A row takes another one in. -/
theorem SimM.absorb {m : Nat → MV} {a : Act} {w w' : World} (h : SimM C s m a w) {id j : Nat} (hne : id ≠ j) (hid : liveAt s.rows id) (hj : liveAt s.rows j) (hnb : C.nb ≤ id) (hnj : C.nb ≤ j)
    {b0 : Nat} (hb0 : (m id).S b0) (hg : w.grownBy w' (some b0)) (S' : Nat → Prop) (hS' : ∀ b, S' b → (m id).S b ∨ (m j).S b) (r : Row)
    (hr : (∀ fr b, Gd C s.rows m w fr b → Gd C (((s.rows.map (Row.kill j)).set j .dead).set id r) (updM m id ⟨(m id).v, S'⟩) w' fr b ∧ w'.heap[b]? = w.heap[b]?) →
      RowOK w' (Gd C (((s.rows.map (Row.kill j)).set j .dead).set id r) (updM m id ⟨(m id).v, S'⟩) w') (updM m id ⟨(m id).v, S'⟩) s.rows.length ⟨(m id).v, S'⟩ r) :
    SimM C ⟨s.n, killE j s.env, ((s.rows.map (Row.kill j)).set j .dead).set id r⟩ (updM m id ⟨(m id).v, S'⟩) a w' := by
  have hidl : id < s.rows.length := by
    obtain ⟨q, hq, _⟩ := hid
    exact (List.getElem?_eq_some_iff.1 hq).1
  have hjl : j < s.rows.length := by
    obtain ⟨q, hq, _⟩ := hj
    exact (List.getElem?_eq_some_iff.1 hq).1
  have hlive : ∀ i, liveAt (((s.rows.map (Row.kill j)).set j .dead).set id r) i → i ≠ j ∧ liveAt s.rows i := by
    intro i ⟨q, hq, hv⟩
    rw [List.getElem?_set] at hq
    split at hq
    · rename_i e; subst e; exact ⟨hne, hid⟩
    · rw [List.getElem?_set] at hq
      split at hq
      · simp [hjl] at hq; subst hq; cases hv
      · rename_i e; exact ⟨Ne.symm e, liveAt_kill ⟨q, hq, hv⟩⟩
  have hmv : ∀ i, (updM m id ⟨(m id).v, S'⟩ i).v = (m i).v := by
    intro i
    by_cases e : i = id
    · subst e; rw [updM_same]
    · rw [updM_ne _ _ e]
  have hSof : ∀ i b, i ≠ j → liveAt s.rows i → (updM m id ⟨(m id).v, S'⟩ i).S b → ∃ k, liveAt s.rows k ∧ (m k).S b ∧ (k = i ∨ (i = id ∧ k = j)) := by
    intro i b hij hl hb
    by_cases e : i = id
    · subst e
      rw [updM_same] at hb
      rcases hS' b hb with h1 | h1
      · exact ⟨i, hl, h1, .inl rfl⟩
      · exact ⟨j, hj, h1, .inr ⟨rfl, rfl⟩⟩
    · rw [updM_ne _ _ e] at hb
      exact ⟨i, hl, hb, .inl rfl⟩
  have hG : ∀ fr b, Gd C s.rows m w fr b → Gd C (((s.rows.map (Row.kill j)).set j .dead).set id r) (updM m id ⟨(m id).v, S'⟩) w' fr b ∧ w'.heap[b]? = w.heap[b]? := by
    refine Gd.step (fun b => b = b0) hg.size (fun k hk hn => hg.block k hk (fun e => hn (Option.some.inj e))) (fun k hk => ⟨id, hid, by rw [hk]; exact hb0⟩) (fun b _ ⟨i, hl, hbk⟩ => ?_)
    obtain ⟨h1, h2⟩ := hlive i hl
    obtain ⟨k, h3, h4, _⟩ := hSof i b h1 h2 hbk
    exact ⟨k, h3, h4⟩
  exact {
    defs := h.defs
    size := h.size
    os := hg.os.trans h.os
    tape := hg.tape.trans h.tape
    output := hg.output.trans h.output
    hsz := Nat.le_trans h.hsz hg.size
    old := fun k hk hn => (hg.block k (by have := h.hsz; omega) (fun e => by have := h.newb id b0 hnb hid hb0; cases e; omega)).trans (h.old k hk hn)
    bor := fun i hi => by rw [updM_ne _ _ (by omega)]; exact h.bor i hi
    nbl := by have := h.nbl; simp; omega
    newb := fun i b hi hl hbk => by
      obtain ⟨h1, h2⟩ := hlive i hl
      obtain ⟨k, h3, h4, h5⟩ := hSof i b h1 h2 hbk
      exact h.newb k b (by rcases h5 with rfl | ⟨_, rfl⟩ <;> omega) h3 h4
    dist := fun i1 i2 b h1 h2 hb1 hb2 => by
      obtain ⟨a1, a2⟩ := hlive i1 h1
      obtain ⟨c1, c2⟩ := hlive i2 h2
      obtain ⟨k1, k2, k3, k4⟩ := hSof i1 b a1 a2 hb1
      obtain ⟨l1, l2, l3, l4⟩ := hSof i2 b c1 c2 hb2
      have e := h.dist k1 l1 b k2 l2 k3 l3
      rcases k4 with rfl | ⟨rfl, rfl⟩ <;> rcases l4 with rfl | ⟨rfl, rfl⟩
      · exact e
      · exact absurd e a1
      · exact absurd e.symm c1
      · rfl
    rows := fun i q hq => by
      change (((s.rows.map (Row.kill j)).set j .dead).set id r)[i]? = some q at hq
      have hlen : (((s.rows.map (Row.kill j)).set j .dead).set id r).length = s.rows.length := by simp
      show RowOK w' _ _ (((s.rows.map (Row.kill j)).set j .dead).set id r).length _ q
      rw [hlen]
      rw [List.getElem?_set] at hq
      split at hq
      · rename_i e
        subst e
        simp [hidl] at hq
        subst hq
        rw [updM_same]
        exact hr hG
      · rename_i e
        rw [List.getElem?_set] at hq
        split at hq
        · simp [hjl] at hq; subst hq; exact .dead _
        · rename_i e2
          rw [getElem?_killRows] at hq
          simp only [Option.map_eq_some_iff] at hq
          obtain ⟨q', hq', rfl⟩ := hq
          rw [updM_ne _ _ (Ne.symm e)]
          exact RowOK.killV hG (fun k _ => hmv k) (h.rows i q' hq') (fun hd b hbk => hg.block b (h.lt ⟨q', hq', hd⟩ hbk) (fun eb => e (h.dist id i b hid ⟨q', hq', hd⟩ (by cases eb; exact hb0) hbk)))
    env := fun u => by
      show RS w' _ _ (((s.rows.map (Row.kill j)).set j .dead).set id r).length (look (killE j s.env) u) _
      have hlen : (((s.rows.map (Row.kill j)).set j .dead).set id r).length = s.rows.length := by simp
      rw [hlen, look_killE]
      exact (h.env u).killV hG (fun k _ => hmv k) }

/-- A row of the call's own goes into a place of a row whose slices are its own. -/
theorem vo_store_tree {x y : Operand} {T id j R i : Nat} {nl : Option Bool} {h : Option (Nat × Option Value)} {xs : List PV} {p : PV} {rj : Row} {inf : TypeInfo} (hx : getO s.env x = .ptr id 1 i 0) (hrow : s.rows[id]? = some (.tree R 1 nl h xs))
    (hh : h = none ∨ ∃ z, h = some (i, z)) (hy : getO s.env y = .ref j) (hrj : s.rows[j]? = some rj) (hlj : rj.live = true) (hp : p.fits 1) (hch : ∀ w G m N mv, RowOK w G m N mv rj → TP w p mv.v mv.S)
    (hne : Nat.beq id j = false) (hnb : C.nb ≤ id) (hnj : C.nb ≤ j) (hinf : P.info? T = some inf) (hsz : inf.size = 1) (hi : i < xs.length)
    (next : VO P C ops rest Q ⟨s.n, killE j s.env, ((s.rows.map (Row.kill j)).set j .dead).set id (.tree R 1 nl none (xs.set i p))⟩) :
    VO P C ops (⟨none, .store T x y, ty, pos, af, none⟩ :: rest) Q s := by
  refine vo_unit (s1 := ⟨s.n, killE j s.env, ((s.rows.map (Row.kill j)).set j .dead).set id (.tree R 1 nl none (xs.set i p))⟩) (fun m a w hs => ?_) next
  have hne : id ≠ j := fun e => by subst e; rw [Nat.beq_refl] at hne; cases hne
  obtain ⟨b, hv, hb, hid⟩ := hs.ptr hx
  obtain ⟨hvy, hjl⟩ := hs.row hy
  have hTj := hch _ _ _ _ _ (hs.rows j _ hrj)
  have hone := hTj.oneCell
  have hlid : liveAt s.rows id := ⟨_, hrow, rfl⟩
  have hljv : liveAt s.rows j := ⟨_, hrj, hlj⟩
  have hR := hs.rows id _ hrow
  have hdist := hs.dist
  generalize hmv : m id = v at *
  cases hR with
  | tree mv t' e nl h xs vals Sf hown h1 h2 hw hr hd hn hz hS hkn =>
    rcases hown.2 with ⟨e0, hn0⟩ | ⟨g, cap, cur, e0, _, hheap, hle, hmx, hcs, htk⟩
    · omega
    · have hgb : b = g := by rw [e0] at hb; simpa [blk] using hb.symm
      subst hgb
      have hblk : blk v.v = some b := by rw [e0]; rfl
      have hcur : i < cur.size := by rw [hcs]; omega
      have hcell : w.cell? ⟨b, i, none⟩ = some cur[i] := by
        rw [cell_of_row w b _ cur R (0, 0) hheap]; exact Array.getElem?_eq_getElem hcur
      have hfz : w.frozen? ⟨b, i, none⟩ = false := by simp [World.frozen?, hheap]
      have hcells : (m j).v.cells.toList = [(m j).v] := oneCell_cells hone
      have hcs1 : (m j).v.cells.size = 1 := by
        have := congrArg List.length hcells
        simpa using this
      let w' := w.setCell ⟨b, i, none⟩ (m j).v
      have hst : (store (⟨b, i, none⟩ : Addr) (m j).v).run P w = .ok () w' := by
        rw [run_store P w _ _ _ hone, hcell]
        simp [hfz, w']
      have hheap' : w'.heap[b]? = some (.cells (cur.setIfInBounds i (m j).v) R (0, 0)) := heap_setCell_same w b i cur R _ hheap
      have hoth : ∀ k, k ≠ b → w'.heap[k]? = w.heap[k]? := fun k hk => heap_setCell_other w ⟨b, i, none⟩ k _ (fun e => hk e)
      have hvl : vals.length = xs.length := by have := hown.1; omega
      have hSfb : ∀ q b', Sf q b' → b' ≠ b := fun q b' h e => hn q b' h (by rw [e]; exact hblk)
      have hjb : ∀ b', (m j).S b' → b' ≠ b := fun b' h e => hne (hdist id j b' hlid hljv (by rw [hmv]; exact (hS b').2 (.inl (by rw [e]; exact hblk))) h)
      let Sf' : Nat → Nat → Prop := fun q b' => if q = i then (m j).S b' else Sf q b'
      let S' : Nat → Prop := fun b' => blk v.v = some b' ∨ ∃ q, Sf' q b'
      have hg : w.grownBy w' (some b) := ⟨rfl, rfl, rfl, by simp [w', World.setCell], fun k _ hk => hoth k (fun e => hk (by rw [e]))⟩
      have hab := hs.absorb (w' := w') hne hlid hljv hnb hnj (b0 := b) (by rw [hmv]; exact (hS b).2 (.inl hblk)) hg S' (fun b' hb' => by
        rw [hmv]
        rcases hb' with h3 | ⟨q, h3⟩
        · exact .inl ((hS b').2 (.inl h3))
        · simp only [Sf'] at h3
          split at h3
          · exact .inr h3
          · exact .inl ((hS b').2 (.inr ⟨q, h3⟩))) (.tree R 1 nl none (xs.set i p)) (fun hG => by
        rw [hmv]
        refine .tree ⟨v.v, S'⟩ R 1 nl none (xs.set i p) (vals.set i (m j).v) Sf' ?_ h1 h2 ?_ ?_ ?_ ?_ ?_ (fun b' => Iff.rfl) (fun _ _ h => by cases h)
        · refine ⟨by simp; omega, .inr ⟨b, cap, _, by rw [List.length_set]; exact e0, Nat.zero_le _, hheap', by rw [List.length_set]; exact hle, hmx, by simp [hcs], ?_⟩⟩
          rw [List.length_set, Array.toList_setIfInBounds, List.take_set, htk]
        · intro k y hy
          rw [List.getElem?_set] at hy
          split at hy
          · cases hy; exact hp
          · exact hw k y hy
        · intro k y jj c u hy hc hu
          rw [List.getElem?_set] at hy
          have hjj : jj = 0 := by
            have hf : y.fits 1 := by
              split at hy
              · cases hy; exact hp
              · exact hw k y hy
            have := (List.getElem?_eq_some_iff.1 hc).1
            rw [hf.1] at this; omega
          subst hjj
          simp only [Nat.mul_one, Nat.add_zero] at hu ⊢
          rw [List.getElem?_set] at hu
          split at hy
          · rename_i eki
            subst eki
            · cases hy
              rw [if_pos rfl, if_pos (by omega)] at hu
              cases hu
              have hc1 : c = p := by
                rw [hTj.cells1] at hc
                simpa using hc.symm
              subst hc1
              refine .inl ?_
              have hSi : (fun b' => Sf' i b') = (m j).S := by funext b'; simp [Sf']
              show TP w' c (m j).v (fun b' => Sf' i b')
              rw [hSi]
              exact hTj.mono fun b' h => hoth b' (hjb b' h)
          · rename_i eki
            rw [if_neg eki] at hu
            have hSk : (fun b' => Sf' k b') = Sf k := by funext b'; simp [Sf', Ne.symm eki]
            show CellOK w' none k c u (fun b' => Sf' k b')
            rw [hSk]
            have h3 := hr k y 0 c u hy hc (by simpa using hu)
            simp only [Nat.mul_one, Nat.add_zero] at h3
            refine .inl ?_
            rcases h3 with h3 | ⟨h3, _⟩
            · exact h3.mono fun b' h => hoth b' (hSfb k b' h)
            · rcases hh with rfl | ⟨z, rfl⟩
              · cases h3
              · cases h3; exact absurd rfl eki
        · intro q q' b' h3 h4
          simp only [Sf'] at h3 h4
          split at h3 <;> split at h4
          · omega
          · exact (hne (hdist j id b' hljv hlid h3 (by rw [hmv]; exact (hS b').2 (.inr ⟨q', h4⟩))).symm).elim
          · exact (hne (hdist j id b' hljv hlid h4 (by rw [hmv]; exact (hS b').2 (.inr ⟨q, h3⟩))).symm).elim
          · exact hd q q' b' h3 h4
        · intro q b' h3 h4
          simp only [Sf'] at h3
          split at h3
          · exact hjb b' h3 (by rw [hblk] at h4; exact (Option.some.inj h4).symm)
          · exact hn q b' h3 h4
        · intro q b' h3 h4
          simp only [Sf'] at h4
          rw [List.length_set] at h3
          split at h4
          · omega
          · exact hz q b' h3 h4)
      refine ⟨w', _, ?_, hab⟩
      have hadd : (⟨b, i, none⟩ : Addr).add 0 = ⟨b, i, none⟩ := rfl
      simp only [Nat.mul_one, Nat.add_zero] at hv
      simp [execOp, Instr.storeAt, hv, hvy, Instr.sureAddr, storeVar, sizeOf, typeInfo, hinf, hsz, hcs1, hcells, storeCells, hadd, hst]
end
end Go.Vl

/- A part of a row whose slices are its own is lent to a function, which may write it. -/
namespace Go.Vl
set_option linter.unusedVariables false
set_option linter.unusedSimpArgs false
open Go.RowKit

section
variable {P : Program} {C : Ctx} {Q : Go.Exit → St → Prop} {s : St} {ops : Array Oper} {rest : List Oper} {t : Nat} {ty : TypeId} {pos : String} {af : Array Edge}

/-- A slice in such a row is read: the row remembers what its cell holds. -/
theorem vo_load_sub {x : Operand} {T id R i : Nat} {nl : Option Bool} {xs : List PV} {D : TypeDesc} (ht : Nat.blt t s.n = true) (hx : getO s.env x = .ptr id 1 i 0) (hrow : s.rows[id]? = some (.tree R 1 nl none xs))
    (hT : P.underlying T = some D) (hD : D.isRow = false) (hi : i < xs.length)
    (next : ∀ u : Value, VO P C ops rest Q ⟨s.n, (t, .val u) :: s.env, s.rows.set id (.tree R 1 nl (some (i, some u)) xs)⟩) : VO P C ops (⟨some t, .load T x, ty, pos, af, none⟩ :: rest) Q s := by
  intro a w ⟨m, hs⟩
  obtain ⟨b, hv, hb, hid⟩ := hs.ptr hx
  have hlid : liveAt s.rows id := ⟨_, hrow, rfl⟩
  have hR := hs.rows id _ hrow
  have key : ∃ u, w.cell? ⟨b, i, none⟩ = some u ∧ RowOK w (Gd C s.rows m w) m s.rows.length (m id) (.tree R 1 nl (some (i, some u)) xs) := by
    generalize m id = v at *
    cases hR with
    | tree mv t' e nl h xs vals Sf hown h1 h2 hw hr hd hn hz hS hkn =>
      rcases hown.2 with ⟨e0, hn0⟩ | ⟨g, cap, cur, e0, _, hheap, hle, hmx, hcs, htk⟩
      · omega
      · have hgb : b = g := by rw [e0] at hb; simpa [blk] using hb.symm
        subst hgb
        have hvl : vals.length = xs.length := by have := hown.1; omega
        have hu : vals[i]? = some vals[i] := List.getElem?_eq_getElem (by omega)
        refine ⟨vals[i], ?_, .tree _ R 1 nl _ xs vals Sf hown h1 h2 hw (fun k y j c u hy hc hu => .inl (hr k y j c u hy hc hu).tp) hd hn hz hS (fun q u h => by cases h; exact hu)⟩
        rw [cell_of_row w b _ cur R (0, 0) hheap, ← Array.getElem?_toList]
        rw [← hu, ← htk, List.getElem?_take, if_pos (by omega)]
  obtain ⟨u, hcell, hRu⟩ := key
  have hs2 : SimM C ⟨s.n, s.env, s.rows.set id (.tree R 1 nl (some (i, some u)) xs)⟩ m a w :=
    hs.storeRow (w' := w) (bo := none) hlid (fun _ e => by cases e) ⟨rfl, rfl, rfl, Nat.le_refl _, fun _ _ _ => rfl⟩ _ (fun hG => RowOK.mono hG (Nat.le_refl _) (fun _ _ => rfl) hRu (fun _ _ _ => rfl))
  refine wpList_plain rfl fun K hK => ?_
  unfold Oper.wp
  have hrun : (execOp a.eval ⟨some t, .load T x, ty, pos, af, none⟩).run P w = .ok (.value u) w := by
    have hagg : (isAgg T).run P w = .ok false w := by
      cases D <;> simp_all [isAgg, run_underlying hT]
    simp only [Nat.mul_one, Nat.add_zero] at hv
    simp [execOp, Instr.loadAt, hv, Instr.sureAddr, loadVar, hagg, load, Sem.run, hcell]
  rw [hrun, Oper.upon_value]
  exact hK _ _ (next u _ _ ⟨m, hs2.put (blt_lt ht) (.val u)⟩)

/-- The row forgets what a cell of it holds. -/
theorem vo_unknow {l : List Oper} (id : Nat) {R e : Nat} {nl : Option Bool} {q : Nat} {u : Value} {xs : List PV} (hrow : s.rows[id]? = some (.tree R e nl (some (q, some u)) xs))
    (next : VO P C ops l Q ⟨s.n, s.env, s.rows.set id (.tree R e nl none xs)⟩) : VO P C ops l Q s := by
  intro a w ⟨m, hs⟩
  refine next a w ⟨m, hs.storeRow (w' := w) (bo := none) ⟨_, hrow, rfl⟩ (fun _ e => by cases e) ⟨rfl, rfl, rfl, Nat.le_refl _, fun _ _ _ => rfl⟩ _ (fun hG => ?_)⟩
  refine RowOK.mono hG (Nat.le_refl _) (fun _ _ => rfl) ?_ (fun _ _ _ => rfl)
  have hR := hs.rows id _ hrow
  generalize m id = v at *
  cases hR with
  | tree mv t' e nl h xs vals Sf hown h1 h2 hw hr hd hn hz hS hkn =>
    exact .tree _ R e nl none xs vals Sf hown h1 h2 hw (fun k y j c u hy hc hu => .inl (hr k y j c u hy hc hu).tpK) hd hn hz hS (fun _ _ h => by cases h)

def SV.isScal : SV → Bool
  | .pv _ p => p.scal
  | _ => false

end
end Go.Vl
namespace Go.Vl
theorem TP.weak {w : World} {nl : Option Bool} {e : Nat} {xs : List PV} {v : Value} {S : Nat → Prop} (h : TP w (.sl nl e xs) v S) : TP w (.sl none e xs) v S := by
  cases h with
  | scal _ _ _ hsc => simp [PV.scal] at hsc
  | sl t e nl xs v vals Sf S hown h1 h2 hw hr hd hn hz hS => exact .sl t e none xs v vals Sf S hown (fun h => by cases h) (fun h => by cases h) hw hr hd hn hz hS

/-- Numbers that go up one by one. -/
def markL (k : Int) (n : Nat) : List Int := (List.range n).map (fun (j : Nat) => k + (j : Int))
theorem row1_eqT {el : TypeId} {e : Nat} {nl : Option Bool} {h : Option (Nat × Option Value)} {xs ys : List PV} (hh : xs = ys) : [Row.tree el e nl h xs] = [Row.tree el e nl h ys] := by rw [hh]
end Go.Vl

/- 'copy' of a whole slice; a slice held against nil; ghost steps on slots. -/
namespace Go.Vl
set_option linter.unusedVariables false
set_option linter.unusedSimpArgs false
open Go.RowKit

section
variable {P : Program} {C : Ctx} {Q : Go.Exit → St → Prop} {s : St} {ops : Array Oper} {rest : List Oper} {t : Nat} {ty : TypeId} {pos : String} {af : Array Edge}

/-- A ghost step: a slot forgets whether its slice is nil. -/
theorem vc_weaken {code : Code} (u : Nat) {e : Nat} {nl : Option Bool} {f : Bool} {xs : List PV} (hu : look s.env u = .pv f (.sl nl e xs))
    (next : VC P C code Q ⟨s.n, (u, .pv f (.sl none e xs)) :: s.env, s.rows⟩) : VC P C code Q s := by
  intro a w ⟨m, hs⟩
  refine next a w ⟨m, { hs with env := fun q => ?_ }⟩
  show RS _ _ _ _ (look ((u, .pv f (.sl none e xs)) :: s.env) q) _
  rw [look_cons]
  split
  · rename_i e
    subst e
    have hv := hs.env q
    rw [hu] at hv
    exact .pv _ _ _ hv.pv_inv.weaken
  · exact hs.env q

/-- A ghost step: a slot forgets that its value is new. -/
theorem vo_flag {l : List Oper} (u : Nat) {f : Bool} {p : PV} (hu : look s.env u = .pv f p)
    (next : VO P C ops l Q ⟨s.n, (u, .pv false p) :: s.env, s.rows⟩) : VO P C ops l Q s := by
  intro a w ⟨m, hs⟩
  refine next a w ⟨m, { hs with env := fun q => ?_ }⟩
  show RS _ _ _ _ (look ((u, .pv false p) :: s.env) q) _
  rw [look_cons]
  split
  · rename_i e
    subst e
    have hv := hs.env q
    rw [hu] at hv
    exact .pv _ _ _ (hv.pv_inv.mono fun b hb => ⟨hb.weak, rfl⟩)
  · exact hs.env q

/-- A slice held against the literal nil. -/
theorem vo_eqnil {x : Operand} {T T2 el : TypeId} {f : Bool} {nl : Option Bool} {e : Nat} {xs : List PV} (ht : Nat.blt t s.n = true) (hx : getO s.env x = .pv f (.sl nl e xs)) (hT : P.underlying T = some (.slice el))
    (next : ∀ b : Bool, (b = true → xs = []) → (nl = some true → b = true) → (nl = some false → b = false) → VO P C ops rest Q (s.put t (.pv true (.bool b)))) :
    VO P C ops (⟨some t, .binOp .eql T x (.const (.slice none 0 0)) T2, ty, pos, af, none⟩ :: rest) Q s := by
  intro a w ⟨m, hs⟩
  have hv := hs.get x
  rw [hx] at hv
  have hv := hv.pv_inv
  have key : ∃ b : Bool, (b = true → xs = []) ∧ (nl = some true → b = true) ∧ (nl = some false → b = false) ∧ (execOp a.eval ⟨some t, .binOp .eql T x (.const (.slice none 0 0)) T2, ty, pos, af, none⟩).run P w = .ok (.value (.bool b)) w := by
    have hrun : ∀ (o : Option Addr) (l c : Nat), a.eval x = .slice o l c → (execOp a.eval ⟨some t, .binOp .eql T x (.const (.slice none 0 0)) T2, ty, pos, af, none⟩).run P w = .ok (.value (.bool o.isNone)) w := by
      intro o l c e
      have hg : (eqGuard .eql T x (.const (.slice none 0 0)) (.slice o l c) (.slice none 0 0)).run P w = .ok () w := rfl
      have heq : (Op.equal T (.slice o l c) (.slice none 0 0)).run P w = .ok o.isNone w := by
        show (Op.equalIn (9999 + 1) T (.slice o l c) (.slice none 0 0)).run P w = _
        unfold Op.equalIn
        cases o <;> simp [run_underlying hT]
      have hb : (binOp .eql T (.slice o l c) (.slice none 0 0)).run P w = .ok (.bool o.isNone) w := by
        show (do pure (Value.bool (← Op.equal T (.slice o l c) (.slice none 0 0))) : Sem Value).run P w = _
        simp [heq]
      have e3 : a.eval (.const (.slice none 0 0)) = .slice none 0 0 := rfl
      simp only [execOp, e, e3]
      simp [hg, hb]
    generalize hav : a.eval x = v at *
    cases hv with
    | nilsl nl e hn => exact ⟨true, fun _ => rfl, fun _ => rfl, fun h => (hn h).elim, hrun none 0 0 rfl⟩
    | sl nl e xs ad len cap fv h hsp hl hcap hg hw hc hr => exact ⟨false, (fun h => by cases h), fun e => (h e).elim, fun _ => rfl, hrun (some ad) len cap rfl⟩
  obtain ⟨b, h1, h2, h3, hrun⟩ := key
  refine wpList_plain rfl fun K hK => ?_
  unfold Oper.wp
  rw [hrun, Oper.upon_value]
  exact hK _ _ (next b h1 h2 h3 _ _ ⟨m, hs.put (blt_lt ht) (.pv _ _ _ (.bool b))⟩)

/-- 'copy' of as many elements as there are. -/
theorem vo_copy {x y : Operand} {id R : Nat} {Ts T2 el : TypeId} {nl : Option Bool} {fr f : Bool} {xs ys : List PV} {inf : TypeInfo} (ht : Nat.blt t s.n = true) (hx : getO s.env x = .ref id) (hrow : s.rows[id]? = some (.own R 1 nl fr xs))
    (hy : srcOf s.rows (getO s.env y) = some (f, 1, ys)) (hT : P.underlying Ts = some (.slice el)) (hinf : P.info? el = some inf) (hsz : inf.size = 1) (hl : ys.length = xs.length)
    (next : VO P C ops rest Q ⟨s.n, (t, .pv true (.int .i64 xs.length)) :: s.env, s.rows.set id (.own R 1 nl (fr && f) ys)⟩) :
    VO P C ops (⟨some t, .call ⟨.builtin .copy, #[x, y], #[Ts, T2]⟩, ty, pos, af, none⟩ :: rest) Q s := by
  refine vo_value (s1 := { s with rows := s.rows.set id (.own R 1 nl (fr && f) ys) }) (sv := .pv true (.int .i64 xs.length)) ht (fun m a w hs => ?_) next
  obtain ⟨hv, hid⟩ := hs.row hx
  have hlive : liveAt s.rows id := ⟨_, hrow, rfl⟩
  have hR := hs.rows id _ hrow
  have hsrc := hs.src hy (by omega)
  have hop : ∀ (v : Value) (w' : World), (Builtin.copy_ #[Ts, T2] ty #[a.eval x, a.eval y]).run P w = .ok v w' → (execOp a.eval ⟨some t, .call ⟨.builtin .copy, #[x, y], #[Ts, T2]⟩, ty, pos, af, none⟩).run P w = .ok (.value v) w' := by
    intro v w' h
    simp [execOp, resolve, invoke, builtin, h]
  have hcomb : ∀ b, (Gd C s.rows m w f b) → Gd C s.rows m w (fr && f) b := by
    intro b hb
    cases fr with
    | false => exact hb.weak
    | true => exact hb
  generalize hmv : m id = v at *
  cases hR with
  | own v t' e nl fr xs vs hown h1 h2 hw hr =>
    have hint : RS w (Gd C (s.rows.set id (.own R 1 nl (fr && f) ys)) m w) m (s.rows.set id (.own R 1 nl (fr && f) ys)).length (.pv true (.int .i64 xs.length)) (.int .i64 xs.length) := .pv _ _ _ (.int _ _)
    rcases hsrc with ⟨hvy, rfl⟩ | ⟨ad, len, cap, news, hvy, rfl, hnl, hnews, hnr, hn1, hfy⟩
    · have hx0 : xs = [] := List.eq_nil_of_length_eq_zero (by simpa using hl.symm)
      subst hx0
      have hs2 : SimM C { s with rows := s.rows.set id (.own R 1 nl (fr && f) []) } m a w := hs.storeRow (w' := w) (bo := none) hlive (fun _ e => by cases e) ⟨rfl, rfl, rfl, Nat.le_refl _, fun _ _ _ => rfl⟩ _ (fun hG => by
        rw [hmv]; exact .own v R 1 nl _ [] vs hown h1 h2 (fun i x hx => by simp at hx) (fun i x j c hx => by simp at hx))
      refine ⟨.int .i64 0, w, m, hop _ _ ?_, hs2, .pv _ _ _ (.int _ _)⟩
      rw [hv, hvy]
      rcases hown.2 with ⟨rfl, _⟩ | ⟨g, cp, cur, rfl, _⟩
      · simp [MV.of, Builtin.copy_, run_underlying hT, Builtin.lenOf, Builtin.firstCells, sizeOf, typeInfo, hinf, goInt]
      · exact run_copy_nil (P := P) w Ts T2 ty el ⟨g, 0, none⟩ 0 cp hT (by simp [hinf])
    · rcases hown.2 with ⟨rfl, hn0⟩ | ⟨g, cp, cur, rfl, _, hheap, hle, hmx, hcs, htk⟩
      · have hy0 : ys = [] := List.eq_nil_of_length_eq_zero (by omega)
        subst hy0
        have hx0 : xs = [] := List.eq_nil_of_length_eq_zero hn0
        subst hx0
        have hs2 : SimM C { s with rows := s.rows.set id (.own R 1 nl (fr && f) []) } m a w := hs.storeRow (w' := w) (bo := none) hlive (fun _ e => by cases e) ⟨rfl, rfl, rfl, Nat.le_refl _, fun _ _ _ => rfl⟩ _ (fun hG => by
          rw [hmv]; exact .own _ R 1 nl _ [] vs hown h1 h2 (fun i x hx => by simp at hx) (fun i x j c hx => by simp at hx))
        refine ⟨.int .i64 0, w, m, hop _ _ ?_, hs2, .pv _ _ _ (.int _ _)⟩
        rw [hv, hvy]
        simp [MV.of, Builtin.copy_, run_underlying hT, Builtin.lenOf, Builtin.firstCells, sizeOf, typeInfo, hinf, goInt, loadCells, loadCellsFrom]
      · have hnl' : news.length = ys.length := by omega
        have hrun := run_copy_row (P := P) w Ts T2 ty el g 0 xs.length cp ad ys.length cap cur R news hT (by simp [hinf, hsz]) hheap (by rw [hnl', hl]; simp) hnews (by rw [hcs]; omega) hn1
        let cur' : Array Value := (cur.toList.take 0 ++ news ++ cur.toList.drop (0 + news.length)).toArray
        have hg : w.grownBy (w.setRow g cur') (some g) := grown_setRow w g _
        refine ⟨goInt news.length, w.setRow g cur', m, hop _ _ (by rw [hv, hvy]; exact hrun), ?_, ?_⟩
        · refine hs.storeRow hlive (fun b' e => by cases e; rw [hmv]; rfl) hg _ (fun hG => ?_)
          rw [hmv]
          refine .own _ R 1 nl _ ys news ⟨by omega, .inr ⟨g, cp, cur', by rw [hl], Nat.zero_le _, setRow_heap w g cur _ R _ hheap, by omega, hmx, ?_, ?_⟩⟩ (fun h => by have := h1 h; simp at this) (fun _ h => by cases h) hfy (fun i x j c hx hc => ?_)
          · simp [cur']; omega
          · simp [cur', hnl']
          · obtain ⟨u, hu, hp⟩ := hnr i x j c hx hc
            exact ⟨u, hu, hp.mono fun b hb => hG _ b (hcomb b hb)⟩
        · rw [hnl', hl]
          exact .pv _ _ _ (.int _ _)
end
end Go.Vl

/- Classes above a class, and below it. -/
namespace Go.Vl
set_option linter.unusedVariables false
set_option linter.unusedSimpArgs false

/-- Steps lead from a class to another one. -/
inductive Abv (b : List (List Int)) : Nat → Nat → Prop
  | refl (c : Nat) : Abv b c c
  | step {c d x : Nat} (h : (d : Int) ∈ b.getD c []) (h2 : Abv b d x) : Abv b c x

theorem Abv.trans {b : List (List Int)} {c d x : Nat} (h : Abv b c d) (h2 : Abv b d x) : Abv b c x := by
  induction h with
  | refl c => exact h2
  | step h _ ih => exact .step h (ih h2)

def mkB (l : List Int) (m : List Bool) : List Bool := l.foldl (fun m x => m.set x.toNat true) m
def stB (b : List (List Int)) (i : Nat) (m : List Bool) : List Bool := if m.getD i false = true then mkB (b.getD i []) m else m
def goB (b : List (List Int)) : Nat → List Bool → List Bool
  | 0, m => m
  | i+1, m => goB b i (stB b (i+1) m)
/-- The same with the root, whose step is none. -/
def goC (b : List (List Int)) : Nat → List Bool → List Bool
  | 0, m => m
  | i+1, m => goC b i (stB b i m)
def abvB (b : List (List Int)) (c : Nat) : List Bool := goB b c ((List.replicate b.length false).set c true)
def idxT (m : List Bool) (k : Nat) : List Int := ((List.range k).filter (fun i => m.getD i false)).map (fun (i : Nat) => (i : Int))
def idxB (m : List Bool) : List Int := idxT m m.length
def abvL (b : List (List Int)) (c : Nat) : List Int := idxB (abvB b c)

/-- The marks of all classes below a class. -/
def belB (b : List (List Int)) (c : Nat) : List Bool := (List.range b.length).map (fun i => decide ((c : Int) ∈ abvL b i))
def belL (b : List (List Int)) (c : Nat) : List Int := idxB (belB b c)
end Go.Vl

/- Lists that keep others; merges of lists. -/
namespace Go.Vl
set_option linter.unusedVariables false
set_option linter.unusedSimpArgs false

/-- How far the second list is met along the first one, from a place on. -/
def kpN (short : List Int) : List Int → Nat → Nat
  | [], a => a
  | x :: l, a => kpN short l (if a < short.length ∧ short.getD a 0 = x then a + 1 else a)

/-- What KeepsOrder says. -/
def KO (long short : List Int) : Prop := OKL' long ∧ OKL' short ∧ short.Sublist long
  where OKL' (l : List Int) : Prop := (l.length : Int) ≤ 12 ∧ l.Nodup
end Go.Vl

/- Merges of lists. -/
namespace Go.Vl
set_option linter.unusedVariables false
set_option linter.unusedSimpArgs false

def fM (n : Int) : List Int → Int → Int
  | [], _ => -1
  | x :: xs, i => if x = n then i else fM n xs (i+1)

/-- Behind the first place. -/
def bhd (x : Int) (l : List Int) : Prop := 0 < fM x l 0
instance {x : Int} {l : List Int} : Decidable (bhd x l) := by unfold bhd; infer_instance
def anyB (ls : List (List Int)) (x : Int) : Prop := ∃ l ∈ ls, bhd x l
instance {ls : List (List Int)} {x : Int} : Decidable (anyB ls x) := by unfold anyB; infer_instance

def freeH (all : List (List Int)) (l : List Int) : Option Int := if 0 < l.length ∧ ¬ anyB all (l.getD 0 0) then some (l.getD 0 0) else none
def fhF (all : List (List Int)) : List (List Int) → Option Int
  | [] => none
  | l :: r => match freeH all l with
    | some x => some x
    | none => fhF all r
def fhM (ls : List (List Int)) : Option Int := fhF ls ls
theorem fhF_drop (all ls : List (List Int)) (k : Nat) (h : k < ls.length) : fhF all (ls.drop k) = match freeH all (ls.getD k []) with | some x => some x | none => fhF all (ls.drop (k+1)) := by
  rw [List.drop_eq_getElem_cons h]
  have : ls.getD k [] = ls[k] := by simp [List.getD, List.getElem?_eq_getElem h]
  rw [this]; rfl
theorem freeH_t {all : List (List Int)} {l : List Int} (h1 : 0 < l.length) (h2 : ¬ anyB all (l.getD 0 0)) : freeH all l = some (l.getD 0 0) := if_pos ⟨h1, h2⟩
theorem freeH_f {all : List (List Int)} {l : List Int} (h : ¬ (0 < l.length ∧ ¬ anyB all (l.getD 0 0))) : freeH all l = none := if_neg h

/-- A list without a number at its head. -/
def tk (x : Int) (l : List Int) : List Int := if 0 < l.length ∧ l.getD 0 0 = x then l.drop 1 else l
theorem tk_t {x : Int} {l : List Int} (h : 0 < l.length) (h2 : l.getD 0 0 = x) : tk x l = l.drop 1 := if_pos ⟨h, h2⟩
theorem tk_f {x : Int} {l : List Int} (h : ¬ (0 < l.length ∧ l.getD 0 0 = x)) : tk x l = l := if_neg h
def tot (ls : List (List Int)) : Nat := (ls.map List.length).sum
theorem tk_len (x : Int) (l : List Int) : (tk x l).length ≤ l.length := by unfold tk; split <;> simp
theorem tot_tk (x : Int) : ∀ ls : List (List Int), tot (ls.map (tk x)) ≤ tot ls
  | [] => Nat.le_refl _
  | l :: r => by
    have h1 := tot_tk x r
    have h2 := tk_len x l
    simp only [tot, List.map_cons, List.sum_cons] at h1 ⊢
    omega
theorem tot_lt {ls : List (List Int)} {l : List Int} (h : l ∈ ls) (x : Int) (h1 : 0 < l.length) (h2 : l.getD 0 0 = x) : tot (ls.map (tk x)) < tot ls := by
  induction ls with
  | nil => cases h
  | cons a r ih =>
    have h3 := tk_len x a
    have h4 := tot_tk x r
    simp only [tot, List.map_cons, List.sum_cons] at ih h4 ⊢
    rcases List.mem_cons.1 h with rfl | h
    · rw [tk_t h1 h2, List.length_drop]; omega
    · have := ih h; omega
theorem fhF_some {all : List (List Int)} : ∀ {ls : List (List Int)} {x : Int}, fhF all ls = some x → ∃ l ∈ ls, 0 < l.length ∧ l.getD 0 0 = x ∧ ¬ anyB all x
  | l :: r, x, h => by
    unfold fhF at h
    split at h
    · rename_i y hy
      cases h
      unfold freeH at hy
      split at hy
      · rename_i h1
        cases hy
        exact ⟨l, List.mem_cons_self, h1.1, rfl, h1.2⟩
      · cases hy
    · obtain ⟨l', h1, h2⟩ := fhF_some h
      exact ⟨l', List.mem_cons_of_mem _ h1, h2⟩
theorem fhM_tot {ls : List (List Int)} {x : Int} (h : fhM ls = some x) : tot (ls.map (tk x)) < tot ls := by
  obtain ⟨l, h1, h2, h3, _⟩ := fhF_some h
  exact tot_lt h1 x h2 h3

def mergeF : Nat → List (List Int) → List Int × List (List Int)
  | 0, ls => ([], ls)
  | n+1, ls => match fhM ls with
    | none => ([], ls)
    | some x => (x :: (mergeF n (ls.map (tk x))).1, (mergeF n (ls.map (tk x))).2)
def mergeM (ls : List (List Int)) : List Int × List (List Int) := mergeF (tot ls) ls
theorem mergeF_none {n : Nat} {ls : List (List Int)} (h : fhM ls = none) : mergeF n ls = ([], ls) := by
  cases n with
  | zero => rfl
  | succ n => simp [mergeF, h]
theorem mergeF_some {n : Nat} {ls : List (List Int)} {x : Int} (h : fhM ls = some x) (hn : tot ls ≤ n) : mergeF n ls = (x :: (mergeF (n-1) (ls.map (tk x))).1, (mergeF (n-1) (ls.map (tk x))).2) := by
  cases n with
  | zero => have := fhM_tot h; omega
  | succ n => simp [mergeF, h]
theorem mergeF_tot : ∀ (n : Nat) (ls : List (List Int)), (mergeF n ls).1.length + tot (mergeF n ls).2 ≤ tot ls
  | 0, ls => by simp [mergeF]
  | n+1, ls => by
    unfold mergeF
    split
    · simp
    · rename_i x hx
      have h1 := mergeF_tot n (ls.map (tk x))
      have h2 := fhM_tot hx
      simp only [List.length_cons]
      omega
theorem mergeF_len : ∀ (n : Nat) (ls : List (List Int)), (mergeF n ls).2.length = ls.length
  | 0, ls => rfl
  | n+1, ls => by
    unfold mergeF
    split
    · rfl
    · rename_i x hx
      simpa using mergeF_len n (ls.map (tk x))

/-- Each once, where it stands first. -/
def onceF : List Int → List Int → List Int
  | acc, [] => acc
  | acc, x :: l => onceF (if x ∈ acc then acc else acc ++ [x]) l
theorem onceF_drop (acc l : List Int) (k : Nat) (h : k < l.length) : onceF acc (l.drop k) = onceF (if l.getD k 0 ∈ acc then acc else acc ++ [l.getD k 0]) (l.drop (k+1)) := by
  rw [List.drop_eq_getElem_cons h]
  have : l.getD k 0 = l[k] := by simp [List.getD, List.getElem?_eq_getElem h]
  rw [this]; rfl
theorem onceF_ge : ∀ (l acc : List Int), acc.length ≤ (onceF acc l).length
  | [], acc => Nat.le_refl _
  | x :: l, acc => by
    have := onceF_ge l (if x ∈ acc then acc else acc ++ [x])
    simp only [onceF]
    split at this <;> simp_all <;> omega
/-- The first numbers of lists. -/
def hd1 (l : List Int) : List Int := l.take 1
def hds (ls : List (List Int)) : List Int := ls.flatMap hd1
theorem hds_len : ∀ ls : List (List Int), (hds ls).length ≤ ls.length
  | [] => Nat.le_refl _
  | l :: r => by
    have := hds_len r
    simp only [hds, List.flatMap_cons, List.length_append, List.length_cons, hd1, List.length_take] at this ⊢
    omega
theorem hds_snoc {ls : List (List Int)} {k : Nat} (h : k < ls.length) : hds (ls.take (k+1)) = hds (ls.take k) ++ hd1 (ls.getD k []) := by
  have : ls.getD k [] = ls[k] := by simp [List.getD, List.getElem?_eq_getElem h]
  unfold hds
  rw [List.take_succ_eq_append_getElem h, List.flatMap_append, List.flatMap_cons, List.flatMap_nil, List.append_nil, this]
theorem hd1_t {l : List Int} (h : 0 < l.length) : hd1 l = [l.getD 0 0] := by
  cases l with
  | nil => simp at h
  | cons x l => rfl
theorem hd1_f {l : List Int} (h : ¬ 0 < l.length) : hd1 l = [] := by
  have : l = [] := List.eq_nil_of_length_eq_zero (by omega)
  subst this; rfl
theorem hds_nil {ls : List (List Int)} : hds ls = [] ↔ ∀ l ∈ ls, l = [] := by
  unfold hds
  rw [List.flatMap_eq_nil_iff]
  constructor
  · intro h l hl
    have := h l hl
    cases l with
    | nil => rfl
    | cons x l => simp [hd1] at this
  · intro h l hl
    rw [h l hl]; rfl
theorem once_nil {l : List Int} : onceF [] l = [] ↔ l = [] := by
  cases l with
  | nil => simp [onceF]
  | cons x l =>
    simp only [onceF, List.not_mem_nil, if_false, List.nil_append, reduceCtorEq, iff_false]
    intro h
    have := onceF_ge l [x]
    rw [h] at this
    simp at this
theorem map_set_tk {ls : List (List Int)} {k : Nat} (h : k < ls.length) (x : Int) : (((ls.take k).map (tk x)) ++ ls.drop k).set k (tk x (ls.getD k [])) = ((ls.take (k+1)).map (tk x)) ++ ls.drop (k+1) := by
  have e : ls.getD k [] = ls[k] := by simp [List.getD, List.getElem?_eq_getElem h]
  rw [e, List.take_succ_eq_append_getElem h, List.drop_eq_getElem_cons h, List.set_append_right _ _ (by simp; omega)]
  have e2 : k - (List.map (tk x) (List.take k ls)).length = 0 := by rw [List.length_map, List.length_take]; omega
  rw [e2, List.map_append, List.append_assoc]
  rfl
theorem map_keep_tk {ls : List (List Int)} {k : Nat} (h : k < ls.length) (x : Int) (h2 : tk x (ls.getD k []) = ls.getD k []) : ((ls.take k).map (tk x)) ++ ls.drop k = ((ls.take (k+1)).map (tk x)) ++ ls.drop (k+1) := by
  have e : ls.getD k [] = ls[k] := by simp [List.getD, List.getElem?_eq_getElem h]
  rw [e] at h2
  rw [List.take_succ_eq_append_getElem h, List.drop_eq_getElem_cons h, List.map_append, List.map_cons, h2]
  simp
theorem map_at_tk {ls : List (List Int)} {k : Nat} (h : k < ls.length) (x : Int) : (((ls.take k).map (tk x)) ++ ls.drop k).getD k [] = ls.getD k [] := by
  simp only [List.getD, List.getElem?_append, List.length_map, List.length_take]
  rw [if_neg (by omega), List.getElem?_drop]
  congr 2
  omega
theorem map_snoc_tk {ls : List (List Int)} {k : Nat} (h : k < ls.length) (x : Int) : ((ls.take k).map (tk x)) ++ [tk x (ls.getD k [])] = (ls.take (k+1)).map (tk x) := by
  have e : ls.getD k [] = ls[k] := by simp [List.getD, List.getElem?_eq_getElem h]
  rw [e, List.take_succ_eq_append_getElem h, List.map_append]; rfl
end Go.Vl

/- A call that makes rows, in a statement whose order of evaluation is open. -/
namespace Go.Vl
set_option linter.unusedVariables false
set_option linter.unusedSimpArgs false
open Go.RowKit

section
variable {P : Program} {C : Ctx} {ops : Array Oper} {K : St → Prop} {s : St} {n : Nat} {listed : Array Bool}

end
end Go.Vl

/- More ghost steps: a row forgets that what it holds is new. -/
namespace Go.Vl
set_option linter.unusedVariables false
set_option linter.unusedSimpArgs false
open Go.RowKit

section
variable {P : Program} {C : Ctx} {Q : Go.Exit → St → Prop} {s : St}
theorem vc_flagrow {code : Code} (id : Nat) {el e : Nat} {nl : Option Bool} {f : Bool} {xs : List PV} (hrow : s.rows[id]? = some (.own el e nl f xs))
    (next : VC P C code Q ⟨s.n, s.env, s.rows.set id (.own el e nl false xs)⟩) : VC P C code Q s := by
  intro a w ⟨m, hs⟩
  refine next a w ⟨m, hs.storeRow (w' := w) (bo := none) ⟨_, hrow, rfl⟩ (fun _ e => by cases e) ⟨rfl, rfl, rfl, Nat.le_refl _, fun _ _ _ => rfl⟩ _ (fun hG => ?_)⟩
  have h := hs.rows id _ hrow
  generalize m id = v at h
  cases h with
  | own v t e nl fr xs vs hown h1 h2 hw hr =>
    refine .own v _ _ _ _ _ vs hown h1 h2 hw (fun i x j c hx hc => ?_)
    obtain ⟨u, hu, hp⟩ := hr i x j c hx hc
    exact ⟨u, hu, hp.mono fun b hb => ⟨(hG _ b hb).1.weak, (hG _ b hb).2⟩⟩
end
end Go.Vl

/- Nil slices of the call's own that are known to be nil; a slice held to differ from nil. -/
namespace Go.Vl
set_option linter.unusedVariables false
set_option linter.unusedSimpArgs false
open Go.RowKit

section
variable {P : Program} {C : Ctx} {Q : Go.Exit → St → Prop} {s : St} {ops : Array Oper} {rest : List Oper} {t : Nat} {ty : TypeId} {pos : String} {af : Array Edge}

theorem vc_own_nilT {code : Code} (u : Nat) {T el e by' e0 : Nat} {d : PV} {f : Bool} (hI : ElInfo P T el e by' d) (hu : look s.env u = .pv f (.sl (some true) e0 []))
    (next : VC P C code Q ⟨s.n, (u, .ref s.rows.length) :: s.env, s.rows ++ [.own el e (some true) true []]⟩) : VC P C code Q s := by
  intro a w ⟨m, hs⟩
  have hv := hs.env u
  rw [hu] at hv
  have hv := hv.pv_inv
  have hval : a.tmps.getD u undef = .slice none 0 0 := by
    generalize a.tmps.getD u undef = v at hv
    cases hv with
    | nilsl => rfl
    | sl nl e xs a len cap f h => exact (h rfl).elim
  have hadd := hs.addRow (w' := w) ⟨rfl, rfl, rfl, Nat.le_refl _, fun _ _ _ => rfl⟩ (.own el e (some true) true []) (.of <| .slice none 0 0)
    (fun b hb => by simp [MV.of, blk] at hb) (fun hG => .own _ el e _ true [] [] (World.ownsRow_nil w 0 el e) (fun _ => rfl) (fun h => by cases h) (fun i x hx => by simp at hx) (fun i x j c hx => by simp at hx))
  refine next a w ⟨_, { hadd.1 with env := fun q => ?_ }⟩
  show RS _ _ _ _ (look ((u, .ref s.rows.length) :: s.env) q) _
  rw [look_cons]
  split
  · rename_i e
    subst e
    rw [hval]
    have := RS.ref (w := w) (G := Gd C (s.rows ++ [.own el e (some true) true []]) (updM m s.rows.length (.of <| .slice none 0 0)) w) (m := updM m s.rows.length (.of <| .slice none 0 0)) (N := (s.rows ++ [Row.own el e (some true) true []]).length) s.rows.length (by simp)
    rw [updM_same] at this
    exact this
  · exact hadd.1.env q

end
end Go.Vl

/- A slice is taken out of a row whose slices are its own: it becomes a row. -/
namespace Go.Vl
set_option linter.unusedVariables false
set_option linter.unusedSimpArgs false
open Go.RowKit

theorem RS.monoV {w w' : World} {G G' : Bool → Nat → Prop} {m m' : Nat → MV} {N N' : Nat} (hG : ∀ fr b, G fr b → G' fr b ∧ w'.heap[b]? = w.heap[b]?)
    (hN : N ≤ N') (hm : ∀ id, id < N → (m' id).v = (m id).v) {s : SV} {v : Value} (h : RS w G m N s v) : RS w' G' m' N' s v := by
  induction h with
  | any v => exact .any v
  | val u => exact .val _
  | und => exact .und
  | pv fr p v h => exact .pv fr p v (h.mono (hG fr))
  | ref id h => rw [← hm id h]; exact .ref id (by omega)
  | ptr id e i o b hid h => exact .ptr id e i o b (by omega) (by rw [hm id hid]; exact h)
  | adr fr cs a f hs hg h1 hc hr =>
    refine .adr fr cs a f hs (fun hne => (hG fr _ (hg hne)).1) h1 (fun j c hj => ?_) (fun j c hj => (hr j c hj).mono (hG fr))
    have hne : cs ≠ [] := by intro h0; subst h0; simp at hj
    have := (hG fr _ (hg hne)).2
    rw [← hc j c hj]
    simp [World.cell?, this]
  | tup vs us hl h ih => exact .tup vs us hl ih
  | ag vs us hl h h1 ih => exact .ag vs us hl ih h1
  | sub i e l h c v hid hs => exact .sub i e l h c v (by omega) (by rw [hm i hid]; exact hs)
  | clo f ids us hl h => exact .clo f ids us hl (fun j i u h1 h2 => by
      obtain ⟨g1, b, g2, g3⟩ := h j i u h1 h2
      exact ⟨by omega, b, by rw [hm i g1]; exact g2, g3⟩)

theorem RowOK.monoV {w w' : World} {G G' : Bool → Nat → Prop} {m m' : Nat → MV} {N N' : Nat} {v : MV} {r : Row} (hG : ∀ fr b, G fr b → G' fr b ∧ w'.heap[b]? = w.heap[b]?)
    (hN : N ≤ N') (hm : ∀ id, id < N → (m' id).v = (m id).v) (h : RowOK w G m N v r) (hb : r.live = true → ∀ b, v.S b → w'.heap[b]? = w.heap[b]?) : RowOK w' G' m' N' v r := by
  cases h with
  | dead v => exact .dead v
  | own v t e nl fr xs vs hown h1 h2 hw hr =>
    refine .own v t e nl fr xs vs ?_ h1 h2 hw (fun i x j c hx hc => ?_)
    · refine ⟨hown.1, ?_⟩
      rcases hown.2 with h | ⟨g, cap, cur, rfl, h0, hh, rest⟩
      · exact .inl h
      · exact .inr ⟨g, cap, cur, rfl, h0, by rw [hb rfl g rfl]; exact hh, rest⟩
    · obtain ⟨u, hu, hp⟩ := hr i x j c hx hc
      exact ⟨u, hu, hp.mono (hG fr)⟩
  | var b t cs cur hbk hl hr h1 =>
    exact .var b t cs cur (by rw [hb rfl b rfl]; exact hbk) hl (fun j c u hc hu => (hr j c u hc hu).monoV hG hN hm) h1
  | gh mv us cs hl h => exact .gh _ us cs hl (fun j c u hc hu => (h j c u hc hu).monoV hG hN hm)
  | mp b g es clock hbk hm' => exact .mp b g es clock (by rw [hb rfl b rfl]; exact hbk) hm'
  | tree mv t e nl h xs vals Sf hown h1 h2 hw hr hd hn hz hS hkn =>
    exact .tree _ t e nl h xs vals Sf (ownsRow_blk hown fun b h => hb rfl b ((hS b).2 (.inl h))) h1 h2 hw
      (fun i x j c u hx hc hu => (hr i x j c u hx hc hu).mono fun b h => hb rfl b ((hS b).2 (.inr ⟨_, h⟩))) hd hn hz hS hkn


section
variable {P : Program} {C : Ctx} {Q : Go.Exit → St → Prop} {s : St} {ops : Array Oper} {rest : List Oper} {t : Nat} {ty : TypeId} {pos : String} {af : Array Edge}

end
end Go.Vl

/- A row of the call's own held to differ from nil. -/
namespace Go.Vl
set_option linter.unusedVariables false
set_option linter.unusedSimpArgs false
open Go.RowKit

section
variable {P : Program} {C : Ctx} {Q : Go.Exit → St → Prop} {s : St} {ops : Array Oper} {rest : List Oper} {t : Nat} {ty : TypeId} {pos : String} {af : Array Edge}

end
end Go.Vl

/- A slice of a row whose slices are its own held against nil. -/
namespace Go.Vl
set_option linter.unusedVariables false
set_option linter.unusedSimpArgs false
open Go.RowKit

section
variable {P : Program} {C : Ctx} {Q : Go.Exit → St → Prop} {s : St} {ops : Array Oper} {rest : List Oper} {t : Nat} {ty : TypeId} {pos : String} {af : Array Edge}

/-- A slice of a row held against the literal nil. -/
theorem vo_eqnil_val {x : Operand} {T T2 el : TypeId} {nl : Option Bool} {e : Nat} {xs : List PV} (ht : Nat.blt t s.n = true) {id i : Nat} {R : TypeId} {nlr : Option Bool} {ws : List PV} {u : Value} (hx : getO s.env x = .val u) (hrow : s.rows[id]? = some (.tree R 1 nlr (some (i, some u)) ws)) (hget : ws[i]? = some (.sl nl e xs)) (hT : P.underlying T = some (.slice el))
    (next : ∀ b : Bool, (b = true → xs = []) → (nl = some true → b = true) → (nl = some false → b = false) → VO P C ops rest Q (s.put t (.pv true (.bool b)))) :
    VO P C ops (⟨some t, .binOp .eql T x (.const (.slice none 0 0)) T2, ty, pos, af, none⟩ :: rest) Q s := by
  intro a w ⟨m, hs⟩
  have hv0 : a.eval x = u := by
    have := hs.get x
    rw [hx] at this
    generalize a.eval x = v at this
    cases this
    rfl
  have hR := hs.rows id _ hrow
  have key : ∃ b : Bool, (b = true → xs = []) ∧ (nl = some true → b = true) ∧ (nl = some false → b = false) ∧ (execOp a.eval ⟨some t, .binOp .eql T x (.const (.slice none 0 0)) T2, ty, pos, af, none⟩).run P w = .ok (.value (.bool b)) w := by
    have hrun : ∀ (o : Option Addr) (l c : Nat), a.eval x = .slice o l c → (execOp a.eval ⟨some t, .binOp .eql T x (.const (.slice none 0 0)) T2, ty, pos, af, none⟩).run P w = .ok (.value (.bool o.isNone)) w := by
      intro o l c e
      have hg : (eqGuard .eql T x (.const (.slice none 0 0)) (.slice o l c) (.slice none 0 0)).run P w = .ok () w := rfl
      have heq : (Op.equal T (.slice o l c) (.slice none 0 0)).run P w = .ok o.isNone w := by
        show (Op.equalIn (9999 + 1) T (.slice o l c) (.slice none 0 0)).run P w = _
        unfold Op.equalIn
        cases o <;> simp [run_underlying hT]
      have hb : (binOp .eql T (.slice o l c) (.slice none 0 0)).run P w = .ok (.bool o.isNone) w := by
        show (do pure (Value.bool (← Op.equal T (.slice o l c) (.slice none 0 0))) : Sem Value).run P w = _
        simp [heq]
      have e3 : a.eval (.const (.slice none 0 0)) = .slice none 0 0 := rfl
      simp only [execOp, e, e3]
      simp [hg, hb]
    generalize m id = v at *
    cases hR with
    | tree mv t' e' nl' h xs' vals Sf hown h1 h2 hw hr hd hn hz hS hkn =>
      have hui : vals[i]? = some u := hkn i u rfl
      have hTP : TP w (.sl nl e xs) u (Sf i) := by
        have := (hr i (.sl nl e xs) 0 (.sl nl e xs) u hget rfl (by simpa using hui)).tpK
        simpa using this
      cases hTP with
      | scal _ _ _ hsc9 => simp [PV.scal] at hsc9
      | sl tc e nl xs v vals2 Sf2 S hown2 g1 g2 gw gr gd gn gz gS =>
        rcases hown2.2 with ⟨e0, hn0⟩ | ⟨g, cap, cur, e0, _⟩
        · refine ⟨true, fun _ => List.eq_nil_of_length_eq_zero hn0, fun _ => rfl, fun h => (g2 h e0).elim, ?_⟩
          exact hrun none 0 0 (hv0.trans e0)
        · refine ⟨false, (fun h => by cases h), (fun h => by have := g1 h; rw [e0] at this; cases this), fun _ => rfl, ?_⟩
          exact hrun (some _) _ _ (hv0.trans e0)
  obtain ⟨b, h1, h2, h3, hrun⟩ := key
  refine wpList_plain rfl fun K hK => ?_
  unfold Oper.wp
  rw [hrun, Oper.upon_value]
  exact hK _ _ (next b h1 h2 h3 _ _ ⟨m, hs.put (blt_lt ht) (.pv _ _ _ (.bool b))⟩)

end
end Go.Vl

/- Ghost steps in a statement whose order is open. -/
namespace Go.Vl
set_option linter.unusedVariables false
set_option linter.unusedSimpArgs false
open Go.RowKit
theorem vd_st {P : Program} {C : Ctx} {ops : Array Oper} {K : St → Prop} {s s' : St} {n : Nat} {listed : Array Bool} (h : s = s') (next : VD P C ops n listed K s') : VD P C ops n listed K s := by rw [h]; exact next
end Go.Vl

/- Statements whose order of evaluation is open, with operations that write: these come when nothing else can. -/
namespace Go.Vl
set_option linter.unusedVariables false
set_option linter.unusedSimpArgs false
open Go.RowKit

section
variable {P : Program} {ops : Array Oper} {Q : Go.Exit → Act → World → Prop}

/-- Whatever order is picked; each step leaves all that was there as it was, or is one of those that come late. -/
def anyL (late : List Nat) (P : Program) (ops : Array Oper) (Q : Go.Exit → Act → World → Prop) : Nat → Array Bool → Act → World → Prop
  | 0, listed, a, w => Region.ready .any ops listed = [] ∧ Q .normal a w
  | n + 1, listed, a, w => (Region.ready .any ops listed = [] → Q .normal a w) ∧
      ∀ i ∈ Region.ready .any ops listed, wpOp P ops Q i (fun a' w' => (ExtW w w' ∨ late.contains i = true) ∧ anyL late P ops Q n (listed.setIfInBounds i true) a' w') a w

theorem any_of_anyL {late : List Nat} : ∀ (n : Nat) (listed : Array Bool) (a : Act) (w : World), anyL late P ops Q n listed a w → wpAny P .any ops Q n listed a w
  | 0, _, _, _, h => h
  | n + 1, _, _, _, h => ⟨h.1, fun i hi => wpOp_mono (fun a' w' h' => any_of_anyL n _ a' w' h'.2) (h.2 i hi)⟩

theorem anyL_first {late : List Nat} {M : Nat → Bool} {i : Nat} {oi : Oper} {v : Value} (hi : ops[i]? = some oi) (hsel : ∀ (j : Nat) (o : Oper) cs b, ops[j]? = some o → o.op ≠ .select cs b) (hQ : ∀ c a w, ¬ Q (.panic c) a w)
    (hcl : ∀ j oj, ops[j]? = some oj → j ≠ i → (∀ e ∈ oj.after, Region.binds .any e = true → M e.on = true) → M j = true ∧ late.contains j = false) :
    ∀ (n : Nat) (listed : Array Bool) (a : Act) (w : World),
      (∀ j oj, ops[j]? = some oj → j ≠ i → listed.getD j true = false → (∀ e ∈ oj.after, Region.binds .any e = true → e.on ≠ i) → oi.apart ops oj = true) →
      (∀ k, listed.getD k false = true → M k = true) →
      i ∈ Region.ready .any ops listed → yieldsE P ops oi v a w → anyL late P ops Q n (listed.setIfInBounds i true) (a.put oi.dst v) w → anyL late P ops Q (n + 1) listed a w := by
  intro n
  induction n with
  | zero =>
    intro listed a w _ _ hr hy H
    refine ⟨fun h => (by rw [h] at hr; cases hr), fun j hj => ?_⟩
    by_cases hji : j = i
    · subst hji; exact hy.op hi ⟨.inl (ExtW.refl w), H⟩
    · have := ready_mono hj hji
      rw [H.1] at this
      cases this
  | succ n ih =>
    intro listed a w hfree hsub hr hy H
    refine ⟨fun h => (by rw [h] at hr; cases hr), fun j hj => ?_⟩
    by_cases hji : j = i
    · subst hji; exact hy.op hi ⟨.inl (ExtW.refl w), H⟩
    · have g1 := H.2 j (ready_mono hj hji)
      obtain ⟨hjun, oj, hoj, hall⟩ := mem_ready.1 hj
      have hnot : ∀ e ∈ oj.after, Region.binds .any e = true → e.on ≠ i := by
        intro e he hb heq
        have l1 := hall e he hb
        have l0 := (mem_ready.1 hr).1
        rw [heq] at l1
        rcases Nat.lt_or_ge i listed.size with h' | h'
        · simp [h'] at l0 l1
          rw [l0] at l1
          cases l1
        · simp [Array.getElem?_eq_none h'] at l1
      obtain ⟨hMj, hlj⟩ := hcl j oj hoj hji (fun e he hb => hsub _ (hall e he hb))
      have hext : ∀ (w' : World), (ExtW w w' ∨ late.contains j = true) → ExtW w w' := by
        intro w' h
        rcases h with h | h
        · exact h
        · rw [hlj] at h; cases h
      have g2 := op_before hoj (hfree j oj hoj hji hjun hnot) (fun cs b => hsel i oi cs b hi) (fun cs b => hsel j oj cs b hoj) hQ (fun _ w' h => hext w' h.1) hy g1
      have hfree' : ∀ k ok, ops[k]? = some ok → k ≠ i → (listed.setIfInBounds j true).getD k true = false → (∀ e ∈ ok.after, Region.binds .any e = true → e.on ≠ i) → oi.apart ops ok = true := by
        intro k ok hk hki hun hno
        refine hfree k ok hk hki ?_ hno
        by_cases hjk : j = k
        · subst hjk; exact hjun
        · rw [getD_set_ne true hjk] at hun; exact hun
      have hsub' : ∀ k, (listed.setIfInBounds j true).getD k false = true → M k = true := by
        intro k hk
        by_cases hjk : j = k
        · subst hjk; exact hMj
        · rw [getD_set_ne false hjk] at hk; exact hsub k hk
      refine wpOp_mono (fun a' w' g3 => ⟨g3.2.1, ih (listed.setIfInBounds j true) a' w' hfree' hsub' (ready_mono hr (Ne.symm hji)) g3.1 ?_⟩) g2
      rw [Array.setIfInBounds_comm _ _ hji]
      exact g3.2.2

/-- Without i no late operation can come: M has all that can. -/
def closedB (ops : Array Oper) (late M : List Nat) (i : Nat) : Bool :=
  (List.range ops.size).all fun j => j == i || match ops[j]? with
    | some oj => (oj.after.any fun e => Region.binds .any e && !M.contains e.on) || (M.contains j && !late.contains j)
    | none => true
def subB (listed : Array Bool) (M : List Nat) : Bool := (List.range listed.size).all fun k => !listed.getD k false || M.contains k

theorem closed_spec {late M : List Nat} {i : Nat} (h : closedB ops late M i = true) (j : Nat) (oj : Oper) (hj : ops[j]? = some oj) (hne : j ≠ i) (he : ∀ e ∈ oj.after, Region.binds .any e = true → M.contains e.on = true) :
    M.contains j = true ∧ late.contains j = false := by
  simp only [closedB, List.all_eq_true, List.mem_range] at h
  have h1 := h j (Array.getElem?_eq_some_iff.1 hj).1
  simp only [hj, Bool.or_eq_true, beq_iff_eq, hne, false_or] at h1
  rcases h1 with h1 | h1
  · obtain ⟨e, h2, h3⟩ := Array.any_eq_true'.1 h1
    simp only [Bool.and_eq_true, Bool.not_eq_true'] at h3
    rw [he e h2 h3.1] at h3
    cases h3.2
  · simp only [Bool.and_eq_true, Bool.not_eq_true'] at h1
    exact h1

theorem sub_spec {listed : Array Bool} {M : List Nat} (h : subB listed M = true) (k : Nat) (hk : listed.getD k false = true) : M.contains k = true := by
  simp only [subB, List.all_eq_true, List.mem_range, Bool.or_eq_true, Bool.not_eq_true'] at h
  rcases Nat.lt_or_ge k listed.size with h1 | h1
  · rcases h k h1 with h2 | h2
    · rw [hk] at h2; cases h2
    · exact h2
  · simp [Array.getD, Nat.not_lt.2 h1] at hk
end

def VL (late : List Nat) (P : Program) (C : Ctx) (ops : Array Oper) (n : Nat) (listed : Array Bool) (K : St → Prop) (s : St) : Prop := ∀ m a w, SimM C s m a w → anyL late P ops (post0 C K) n listed a w

section
variable {late : List Nat} {P : Program} {C : Ctx} {ops : Array Oper} {K : St → Prop} {s : St} {n : Nat} {listed : Array Bool}

theorem vl_light (i : Nat) (M : List Nat) {o : Oper} {t : Nat} {sv : SV} (hi : ops[i]? = some o) (hd : o.dst = some t) (ht : Nat.blt t s.n = true) (hr : (Region.ready .any ops listed).contains i = true) (hns : Region.noSelect ops = true)
    (hf : Region.free .any ops listed i = true) (hM : closedB ops late M i = true) (hsub : subB listed M = true) (hw : Wnt C ops s o true) (hl : Lt P C s { o with guard := none } sv) (next : VL late P C ops n (listed.setIfInBounds i true) K (s.put t sv)) : VL late P C ops (n + 1) listed K s := by
  intro m a w hs
  obtain ⟨v, hrun, hv⟩ := hl m a w hs
  refine anyL_first (M := M.contains) hi (Region.noSelect_spec hns) post0_panic (fun j oj hj hne he => closed_spec hM j oj hj hne he) n listed a w (Region.free_spec hi hf) (sub_spec hsub) (by simpa using hr) (.inl ⟨hw m a w hs, hrun⟩) ?_
  rw [hd]
  exact next m _ _ (hs.put (blt_lt ht) hv)

theorem vl_nil (hr : Region.ready .any ops listed = []) (h : K s) : VL late P C ops n listed K s := by
  intro m a w hs
  have hq : post0 C K .normal a w := ⟨rfl, s, ⟨m, hs⟩, h⟩
  cases n with
  | zero => exact ⟨hr, hq⟩
  | succ n => exact ⟨fun _ => hq, by rw [hr]; simp⟩

theorem wp_mono2 {Q Q' : Go.Exit → Act → World → Prop} {K K' : Act → World → Prop} (hq : ∀ e a w, e ≠ .normal → Q e a w → Q' e a w) (hk : ∀ a w, K a w → K' a w) {o : Oper} {a : Act} {w : World} (h : o.wp P a w K Q) : o.wp P a w K' Q' := by
  unfold Oper.wp at *
  generalize (execOp a.eval o).run P w = r at *
  cases r with
  | ok x w' =>
    cases x with
    | value u => exact hk _ _ h
    | skip => exact hk _ _ h
    | defer d => exact hk _ _ h
    | enter f args =>
      simp only [Oper.upon] at h ⊢
      refine h.mono fun e w'' he => ?_
      cases e with
      | returned u => exact hk _ _ he
      | panicked c => exact hq _ _ _ (by simp) he
      | outgrown => obtain ⟨a3, w3, h3⟩ := he; exact ⟨a3, w3, hq _ _ _ (by simp) h3⟩
    | row row args => exact Rows.mono h fun u w'' he => hk _ _ he
    | _ => exact h
  | halt x w' =>
    cases x with
    | panic v => exact hq _ _ _ (by simp) h
    | _ => exact h

/-- An operation when nothing else can come. -/
theorem vl_one (i : Nat) {o : Oper} (hi : ops[i]? = some o) (hr : Region.ready .any ops listed = [i]) (hlate : late.contains i = true)
    (h : VO P C ops [o] (fun e s' => e = .normal ∧ VL late P C ops n (listed.setIfInBounds i true) K s') s) : VL late P C ops (n + 1) listed K s := by
  intro m a w hs
  refine ⟨fun h0 => (by rw [hr] at h0; cases h0), fun j hj => ?_⟩
  rw [hr] at hj
  simp at hj
  subst hj
  have h1 := h a w ⟨m, hs⟩
  have hfin : ∀ a' w', wpList P ops (post C (fun e s' => e = .normal ∧ VL late P C ops n (listed.setIfInBounds j true) K s')) [] a' w' → (ExtW w w' ∨ late.contains j = true) ∧ anyL late P ops (post0 C K) n (listed.setIfInBounds j true) a' w' := by
    rintro a' w' ⟨s', ⟨m', hs'⟩, _, h2⟩
    exact ⟨.inr hlate, h2 m' a' w' hs'⟩
  have hpost : ∀ e a' w', e ≠ .normal → post C (fun e s' => e = .normal ∧ VL late P C ops n (listed.setIfInBounds j true) K s') e a' w' → post0 C K e a' w' := by
    rintro e a' w' hne ⟨s', _, h2, _⟩
    exact absurd h2 hne
  unfold wpOp
  simp only [hi]
  unfold wpList at h1
  by_cases hw : Region.wanted o (yielded ops a.tmps) = true
  · rw [if_pos hw] at h1 ⊢
    rcases h1 with h1 | ⟨h1, a2, w2, h2⟩
    · exact .inl (wp_mono2 hpost hfin h1)
    · exact .inr ⟨h1, a2, w2, hpost _ _ _ (by simp) h2⟩
  · rw [if_neg hw] at h1 ⊢
    exact hfin _ _ h1

theorem vl_st {s' : St} (h : s = s') (next : VL late P C ops n listed K s') : VL late P C ops n listed K s := by rw [h]; exact next
theorem vo_done {Q : Go.Exit → St → Prop} (h : Q .normal s) : VO P C ops [] Q s := vo_nil h
end
end Go.Vl

/- '==' on structs of two numbers. -/
namespace Go.Vl
set_option linter.unusedVariables false
set_option linter.unusedSimpArgs false
open Go.RowKit

/-- Structs of two numbers are compared number by number. -/
def EqI2 (P : Program) (T : TypeId) : Prop :=
  (∀ (x y x' y' : Int) (w : World), (Op.equalIn 10000 T (.agg #[.int .i64 x, .int .i64 y]) (.agg #[.int .i64 x', .int .i64 y'])).run P w = .ok (x == x' && y == y') w) ∧ P.eqGuardType P.depth T = false

section
variable {P : Program} {C : Ctx} {Q : Go.Exit → St → Prop} {s : St} {ops : Array Oper} {rest : List Oper} {t : Nat} {ty : TypeId} {pos : String} {af : Array Edge}

end
end Go.Vl

/- Operations that make new memory, in a statement whose order of evaluation is open. -/
namespace Go.Vl
set_option linter.unusedVariables false
set_option linter.unusedSimpArgs false
open Go.RowKit

/-- The operation hands back a value, and all that was there is there as it was. -/
def Xt (P : Program) (C : Ctx) (s : St) (o : Oper) (s1 : St) (sv : SV) : Prop :=
  ∀ m a w, SimM C s m a w → ∃ v w' m', (execOp a.eval o).run P w = .ok (.value v) w' ∧ SimM C s1 m' a w' ∧ RS w' (Gd C s1.rows m' w') m' s1.rows.length sv v ∧ ExtW w w'

section
variable {late : List Nat} {P : Program} {C : Ctx} {ops : Array Oper} {K : St → Prop} {s s1 : St} {n : Nat} {listed : Array Bool}

end
section
variable {P : Program} {C : Ctx} {s : St} {t : Nat} {ty : TypeId} {pos : String} {af : Array Edge}

/-- A slice literal. -/
theorem xt_buildSlice {T el e by' len : Nat} {d : PV} {parts : Array (Nat × Operand)} {f : Bool} {xs : List PV} (hI : ElInfo P T el e by' d)
    (hp : collectP s.env 0 parts.toList = some (f, xs)) (hlen : xs.length = len) (hsmall : Nat.ble (len * e) 16777216 = true) (hfit : xs.all (fitsB e) = true) :
    Xt P C s ⟨some t, .buildSlice T len parts, ty, pos, af, none⟩ { s with rows := s.rows ++ [.own el e (some false) f xs] } (.ref s.rows.length) := by
  obtain ⟨hT, ⟨inf, z, hinf, hsz, hbytes, hz, hzs, hzr⟩, hdf, he⟩ := hI
  intro m a w hs
  obtain ⟨h1, h2, h3⟩ := collect_vals hs parts.toList 0 f xs hp
  let vals : List Value := parts.toList.map fun q => a.eval q.2
  have hvl : vals.length = len := by simp [vals, h2, hlen]
  have hfit' : ∀ (i : Nat) (x : PV), xs[i]? = some x → x.fits e := by
    intro i x hx
    rw [List.all_eq_true] at hfit
    exact fits_of (hfit x (List.mem_of_getElem? hx))
  have hvs : ∀ v ∈ vals, v.cells.size = e := by
    intro v hv
    obtain ⟨i, hi⟩ := List.getElem?_of_mem hv
    have hlt : i < xs.length := by rw [hlen, ← hvl]; exact (List.getElem?_eq_some_iff.1 hi).1
    have hx : xs[i]? = some xs[i] := List.getElem?_eq_getElem hlt
    obtain ⟨v', hv', hr⟩ := h3 i _ hx
    have : v = v' := by
      have e1 : vals[i]? = some v' := hv'
      rw [hi] at e1
      cases e1
      rfl
    rw [this, hr.cells.1]
    exact (hfit' i _ hx).1
  let cells : Array Value := (vals.flatMap fun v => v.cells.toList).toArray
  have hcells : ∀ k, (vals.flatMap fun v => v.cells.toList)[k]? = (vals[k / e]?).bind (fun v => v.cells[k % e]?) := Great.flat_get he vals hvs
  have hclen : (vals.flatMap fun v => v.cells.toList).length = len * e := by
    have : ∀ l : List Value, (∀ v ∈ l, v.cells.size = e) → (l.flatMap fun v => v.cells.toList).length = l.length * e := by
      intro l
      induction l with
      | nil => intro _; simp
      | cons v l ih =>
        intro hl
        rw [List.flatMap_cons, List.length_append, ih (fun u hu => hl u (List.mem_cons_of_mem _ hu))]
        simp only [Array.length_toList, List.length_cons, hl v List.mem_cons_self]
        rw [Nat.add_mul]
        omega
    rw [this vals hvs, hvl]
  have hrun : (execOp a.eval ⟨some t, .buildSlice T len parts, ty, pos, af, none⟩).run P w = .ok (.value (.slice (some ⟨w.heap.size, 0, none⟩) len len)) (w.alloc (.cells cells el)) := by
    have hpl : (parts.map fun (i, x) => (i, a.eval x)).toList = (vals.zipIdx 0).map fun x => (x.2, x.1) := by
      rw [Array.toList_map]
      exact h1
    by_cases h0 : len = 0
    · subst h0
      have hv0 : vals = [] := List.eq_nil_of_length_eq_zero hvl
      have hpn : (parts.map fun (i, x) => (i, a.eval x)).toList = [] := by rw [hpl, hv0]; rfl
      have hpn2 : parts.toList = [] := by
        have := congrArg List.length hpn
        simp at this
        simpa using this
      have hpn3 : parts = #[] := by simpa using hpn2
      have hc0 : cells = #[] := by simp [cells, hv0]
      subst hpn3
      rw [hc0]
      have hr0 : Array.range 0 = #[] := by apply Array.eq_empty_of_size_eq_zero; simp
      simp [execOp, Instr.buildSlice, run_underlying hT, sizeOf, typeInfo, hinf, Instr.fill, newRow, hr0]
    · have hf := Great.fill_whole he vals ((Array.range (len * e)).map (z.cells[· % z.cells.size]!)) hvs (by simp [hvl])
      have hle := Nat.le_of_ble_eq_true hsmall
      have hne : len * e ≠ 0 := by
        intro h
        rcases Nat.mul_eq_zero.1 h with h | h
        · exact h0 h
        · omega
      have := run_buildSlice (P := P) w T el len (parts.map fun (i, x) => (i, a.eval x)) cells inf z hT hinf hz (by rw [hsz]; omega) (by rw [hsz]; exact hne) (by rw [hsz, hpl]; exact hf)
      simp only [execOp, Sem.run_bind, this, Result.andThen_ok]
      rfl
  have hadd := hs.addRow (w' := w.alloc (.cells cells el)) (World.grownBy_alloc w _ none) (.own el e (some false) f xs) (.of <| .slice (some ⟨w.heap.size, 0, none⟩) len len)
    (fun b hb => by simp [MV.of, blk] at hb; omega) (fun hG => ?_)
  · have hx : ExtW w (w.alloc (.cells cells el)) := let hg := World.grownBy_alloc w (.cells cells el) none; ⟨hg.size, fun k hk => hg.block k hk (by simp)⟩
    refine ⟨_, _, _, hrun, hadd.1, ?_, hx⟩
    have := RS.ref (w := w.alloc (.cells cells el)) (G := Gd C (s.rows ++ [.own el e (some false) f xs]) (updM m s.rows.length (.of <| .slice (some ⟨w.heap.size, 0, none⟩) len len)) (w.alloc (.cells cells el)))
      (m := updM m s.rows.length (.of <| .slice (some ⟨w.heap.size, 0, none⟩) len len)) (N := (s.rows ++ [Row.own el e (some false) f xs]).length) s.rows.length (by simp)
    rw [updM_same] at this
    exact this
  · subst hlen
    refine .own _ el e _ f xs (vals.flatMap fun v => v.cells.toList) ⟨hclen, .inr ⟨w.heap.size, xs.length, cells, rfl, Nat.zero_le _, heap_alloc_new w _, Nat.le_refl _, ?_, by simp only [cells, List.size_toArray]; exact hclen, ?_⟩⟩
      (fun h => by cases h) (fun _ h => by cases h) hfit' (fun i x j c hx hc => ?_)
    · have hle := Nat.le_of_ble_eq_true hsmall
      have := Nat.le_mul_of_pos_right xs.length he
      simp only [maxLen]
      omega
    · show List.take _ (vals.flatMap fun v => v.cells.toList) = _
      exact List.take_of_length_le (by rw [hclen]; exact Nat.le_refl _)
    · obtain ⟨v, hv, hr⟩ := h3 i x hx
      obtain ⟨u, hu, hp⟩ := hr.cells.2 j c hc
      have hj : j < e := by rw [← (hfit' i x hx).1]; exact (List.getElem?_eq_some_iff.1 hc).1
      refine ⟨u, ?_, hp.mono fun b hb => hG f b hb⟩
      have e1 : (i * e + j) / e = i := by rw [Nat.add_comm, Nat.add_mul_div_right _ _ he, Nat.div_eq_of_lt hj]; omega
      have e2 : (i * e + j) % e = j := by rw [Nat.add_comm, Nat.add_mul_mod_self_right]; exact Nat.mod_eq_of_lt hj
      rw [hcells, e1, e2]
      have : vals[i]? = some v := hv
      rw [this]
      exact hu


end
end Go.Vl

/- Side conditions and plain states, by a tactic that the rule itself carries. -/
namespace Go.Vl
set_option linter.unusedVariables false
set_option linter.unusedSimpArgs false
open Go.RowKit

/-- A side condition. -/
theorem sd {p : Prop} (h : p := by first | omega | (simp only [List.length_map] <;> omega) | (simp only [List.length_map, List.length_set, List.length_append, List.length_cons, List.length_nil, List.length_replicate, List.length_take, List.length_drop] <;> omega) | (simp <;> omega) | (constructor <;> (first | omega | (simp <;> omega))) | (refine ⟨?_, ?_, ?_, ?_⟩ <;> omega) | exact ⟨xorI_nonneg _ _, by omega⟩ | decide) : p := h

section
variable {late : List Nat} {P : Program} {C : Ctx} {Q : Go.Exit → St → Prop} {K : St → Prop} {s s' : St} {ops : Array Oper} {n : Nat} {listed : Array Bool}
theorem vo_stN {l : List Oper} (next : VO P C ops l Q s') (h : s = s' := by (try simp only [St.put, exposeE, killE, SV.expose, SV.kill, Row.expose, Row.kill, rowsAfter_nil, rowsAfter_one, packS, SV.shift, placeOf, enumE, List.zip_cons_cons, List.zip_nil_right, List.map_cons, List.map_nil, List.set_cons_zero, List.set_cons_succ, List.length_cons, List.length_nil, List.cons_append, List.nil_append, List.drop_succ_cons, List.drop_zero, List.drop_nil, List.take_succ_cons, List.take_zero, List.take_nil, List.getElem?_cons_zero, List.getElem?_cons_succ, List.getElem?_nil, Option.getD_some, Option.getD_none, Option.map_some, Option.map_none, Nat.reduceAdd, Nat.reduceSub, Nat.reduceEqDiff, Nat.zero_add, Bool.true_or, PV.scal, Bool.or_false, Bool.or_true, Bool.false_or, Bool.and_true, Bool.and_false, Bool.true_and, reduceIte, reduceCtorEq]); exact eq_refl _) : VO P C ops l Q s := vo_st h next
theorem vc_stN {code : Code} (next : VC P C code Q s') (h : s = s' := by (try simp only [St.put, exposeE, killE, SV.expose, SV.kill, Row.expose, Row.kill, rowsAfter_nil, rowsAfter_one, packS, SV.shift, placeOf, enumE, List.zip_cons_cons, List.zip_nil_right, List.map_cons, List.map_nil, List.set_cons_zero, List.set_cons_succ, List.length_cons, List.length_nil, List.cons_append, List.nil_append, List.drop_succ_cons, List.drop_zero, List.drop_nil, List.take_succ_cons, List.take_zero, List.take_nil, List.getElem?_cons_zero, List.getElem?_cons_succ, List.getElem?_nil, Option.getD_some, Option.getD_none, Option.map_some, Option.map_none, Nat.reduceAdd, Nat.reduceSub, Nat.reduceEqDiff, Nat.zero_add, Bool.true_or, PV.scal, Bool.or_false, Bool.or_true, Bool.false_or, Bool.and_true, Bool.and_false, Bool.true_and, reduceIte, reduceCtorEq]); exact eq_refl _) : VC P C code Q s := vc_st h next
end
end Go.Vl

/- A call whose function's code is gone through in its place: the caller's slots wait in a row of their own. -/
namespace Go.Vl
set_option linter.unusedVariables false
set_option linter.unusedSimpArgs false
open Go.RowKit

/-- What a result holds at a function's end. -/
def resG (s : St) : Nat × Option (Nat × Nat) → SV
  | (t, none) => look s.env t
  | (a, some _) => match look s.env a with
    | .ptr id 0 0 0 => match s.rows[id]? with
      | some (.var _ cs) => match collectC cs with
        | some (f, ps) => .pv f (.agg ps)
        | none => .ag cs
      | _ => .any
    | _ => .any

/-- Is the result there? -/
def resGOK (s : St) : Nat × Option (Nat × Nat) → Bool
  | (_, none) => true
  | (a, some (_, n)) => match look s.env a with
    | .ptr id 0 0 0 => match s.rows[id]? with
      | some (.var _ cs) => Nat.beq cs.length n
      | _ => false
    | _ => false

def inQ (us : List Value) (i : Nat) (L : List Nat) (rs : List (Nat × Option (Nat × Nat))) (n t : Nat) (K : St → Prop) (e : Go.Exit) (s' : St) : Prop :=
  (e = .normal ∨ e = .ret) ∧ ∃ cs', s'.rows[i]? = some (.gh us cs') ∧ rs.all (resGOK s') = true ∧ K ⟨n, (t, packS (rs.map (resG s'))) :: L.zip cs', s'.rows.set i .dead⟩

section
variable {P : Program} {C : Ctx} {Q : Go.Exit → St → Prop} {s : St}

theorem run_resG1 {m : Nat → MV} {a : Act} {w : World} (h : SimM C s m a w) {r : Nat × Option (Nat × Nat)} (hT : resT P r) (hok : resGOK s r = true) :
    ∃ v, (resM a.tmps (resVar r)).run P w = .ok v w ∧ RS w (Gd C s.rows m w) m s.rows.length (resG s r) v := by
  obtain ⟨t, _ | ⟨T, n⟩⟩ := r
  · exact ⟨_, rfl, h.env t⟩
  · obtain ⟨D, inf, hu, hD, hinf, hsz⟩ := hT
    simp only [resGOK] at hok
    split at hok
    · rename_i id hid
      split at hok
      · rename_i R cs hrow
        have hl := Nat.eq_of_beq_eq_true hok
        have hg : getO s.env (.tmp t) = .ptr id 0 0 0 := hid
        obtain ⟨b, cur, hv, _, hbk, hcl, hr, h1⟩ := h.var hg hrow
        have hv2 : a.tmps.getD t undef = .pointer (some ⟨b, 0, none⟩) := hv
        refine ⟨.agg cur, ?_, ?_⟩
        · have e := run_loadAt_mid (P := P) w b 0 T cur.toList D (fun j v hj => by
            rw [cell_of_row w b _ cur R (0, 0) hbk]; simpa using hj) hu hD (by rw [hinf]; simp [hsz, hcl, hl])
          simp only [resVar, resM, hv2]
          simpa [Instr.loadAt, Instr.sureAddr, asAddr] using e
        · simp only [resG, hid, hrow]
          split
          · rename_i f ps hcc
            obtain ⟨c1, c2⟩ := collectC_get hcc
            refine .pv _ _ _ (.agg ps cur (by rw [hcl, c1]) (fun j p hp => ?_) (fun j p u hp hu => ?_))
            · obtain ⟨g, h3, _⟩ := c2 j p hp
              have hlt : j < cur.size := by rw [hcl]; exact (List.getElem?_eq_some_iff.1 h3).1
              have hu := Array.getElem?_eq_getElem hlt
              exact (hr _ _ _ h3 hu).pv_inv.notAgg (h1 _ _ hu)
            · obtain ⟨g, h3, h4⟩ := c2 j p hp
              exact RP.flag (G := Gd C s.rows m w) (fun b hb => hb.weak) (hr _ _ _ h3 hu).pv_inv h4
          · exact .ag cs cur hcl hr h1
      · cases hok
    · cases hok

theorem run_resGA {m : Nat → MV} {a : Act} {w : World} (h : SimM C s m a w) {fn : Func} {rs : List (Nat × Option (Nat × Nat))} (hr : fn.results = (rs.map resVar).toArray) (hl : rs.length ≤ 5)
    (hT : ∀ r ∈ rs, resT P r) (hok : rs.all (resGOK s) = true) :
    ∃ us : Array Value, (results fn a.tmps).run P w = .ok (pack us) w ∧ us.size = rs.length ∧ ∀ (j : Nat) (r : Nat × Option (Nat × Nat)), rs[j]? = some r → RS w (Gd C s.rows m w) m s.rows.length (resG s r) (us.getD j undef) := by
  rw [results_eq, hr]
  rw [List.all_eq_true] at hok
  match rs, hl with
  | [], _ => exact ⟨#[], by simp [pack], rfl, fun j r hr => by simp at hr⟩
  | [r1], _ =>
    obtain ⟨v1, h1, k1⟩ := run_resG1 (P := P) h (hT r1 (by simp)) (hok r1 (by simp))
    refine ⟨#[v1], by simp [h1, pack], rfl, fun j r hr => ?_⟩
    match j, hr with
    | 0, hr => cases hr; exact k1
  | [r1, r2], _ =>
    obtain ⟨v1, h1, k1⟩ := run_resG1 (P := P) h (hT r1 (by simp)) (hok r1 (by simp))
    obtain ⟨v2, h2, k2⟩ := run_resG1 (P := P) h (hT r2 (by simp)) (hok r2 (by simp))
    refine ⟨#[v1, v2], by simp [h1, h2, pack], rfl, fun j r hr => ?_⟩
    match j, hr with
    | 0, hr => cases hr; exact k1
    | 1, hr => cases hr; exact k2
  | [r1, r2, r3], _ =>
    obtain ⟨v1, h1, k1⟩ := run_resG1 (P := P) h (hT r1 (by simp)) (hok r1 (by simp))
    obtain ⟨v2, h2, k2⟩ := run_resG1 (P := P) h (hT r2 (by simp)) (hok r2 (by simp))
    obtain ⟨v3, h3, k3⟩ := run_resG1 (P := P) h (hT r3 (by simp)) (hok r3 (by simp))
    refine ⟨#[v1, v2, v3], by simp [h1, h2, h3, pack], rfl, fun j r hr => ?_⟩
    match j, hr with
    | 0, hr => cases hr; exact k1
    | 1, hr => cases hr; exact k2
    | 2, hr => cases hr; exact k3
  | [r1, r2, r3, r4], _ =>
    obtain ⟨v1, h1, k1⟩ := run_resG1 (P := P) h (hT r1 (by simp)) (hok r1 (by simp))
    obtain ⟨v2, h2, k2⟩ := run_resG1 (P := P) h (hT r2 (by simp)) (hok r2 (by simp))
    obtain ⟨v3, h3, k3⟩ := run_resG1 (P := P) h (hT r3 (by simp)) (hok r3 (by simp))
    obtain ⟨v4, h4, k4⟩ := run_resG1 (P := P) h (hT r4 (by simp)) (hok r4 (by simp))
    refine ⟨#[v1, v2, v3, v4], by simp [h1, h2, h3, h4, pack], rfl, fun j r hr => ?_⟩
    match j, hr with
    | 0, hr => cases hr; exact k1
    | 1, hr => cases hr; exact k2
    | 2, hr => cases hr; exact k3
    | 3, hr => cases hr; exact k4
  | [r1, r2, r3, r4, r5], _ =>
    obtain ⟨v1, h1, k1⟩ := run_resG1 (P := P) h (hT r1 (by simp)) (hok r1 (by simp))
    obtain ⟨v2, h2, k2⟩ := run_resG1 (P := P) h (hT r2 (by simp)) (hok r2 (by simp))
    obtain ⟨v3, h3, k3⟩ := run_resG1 (P := P) h (hT r3 (by simp)) (hok r3 (by simp))
    obtain ⟨v4, h4, k4⟩ := run_resG1 (P := P) h (hT r4 (by simp)) (hok r4 (by simp))
    obtain ⟨v5, h5, k5⟩ := run_resG1 (P := P) h (hT r5 (by simp)) (hok r5 (by simp))
    refine ⟨#[v1, v2, v3, v4, v5], by simp [h1, h2, h3, h4, h5, pack], rfl, fun j r hr => ?_⟩
    match j, hr with
    | 0, hr => cases hr; exact k1
    | 1, hr => cases hr; exact k2
    | 2, hr => cases hr; exact k3
    | 3, hr => cases hr; exact k4
    | 4, hr => cases hr; exact k5

end
end Go.Vl

/- '!=' on structs of two numbers. -/
namespace Go.Vl
set_option linter.unusedVariables false
set_option linter.unusedSimpArgs false
open Go.RowKit

section
variable {P : Program} {C : Ctx} {Q : Go.Exit → St → Prop} {s : St} {ops : Array Oper} {rest : List Oper} {t : Nat} {ty : TypeId} {pos : String} {af : Array Edge}

end
section
variable {P : Program}
end
end Go.Vl

/- What yields the same in every world may be taken first, whatever else comes. -/
namespace Go.Vl
set_option linter.unusedVariables false
set_option linter.unusedSimpArgs false
open Go.RowKit

section
variable {P : Program} {ops : Array Oper} {Q : Go.Exit → Act → World → Prop}

def yields0 (P : Program) (ops : Array Oper) (o : Oper) (v : Value) (a : Act) : Prop :=
  (Region.wanted o (yielded ops a.tmps) = true ∧ ∀ w, (execOp a.eval o).run P w = .ok (.value v) w) ∨ (Region.wanted o (yielded ops a.tmps) = false ∧ v = undef)

theorem yields0.step {o : Oper} {v : Value} {a a' : Act} (h : yields0 P ops o v a) (he : execOp a'.eval o = execOp a.eval o)
    (hw : Region.wanted o (yielded ops a'.tmps) = Region.wanted o (yielded ops a.tmps)) : yields0 P ops o v a' := by
  unfold yields0 at *
  rw [he, hw]
  exact h

theorem yields0.op {i : Nat} {o : Oper} {v : Value} {a : Act} {w : World} (hi : ops[i]? = some o) (hy : yields0 P ops o v a) {K : Act → World → Prop} (h : K (a.put o.dst v) w) : wpOp P ops Q i K a w := by
  unfold wpOp
  simp only [hi]
  rcases hy with ⟨hw, hv⟩ | ⟨hw, rfl⟩
  · simp only [hw, if_true, Oper.wp, hv w, Oper.upon]; exact .inl h
  · simp only [hw, Bool.false_eq_true, if_false]; exact h

theorem op_before0 {j : Nat} {oi oj : Oper} {v : Value} (hj : ops[j]? = some oj) (hap : oi.apart ops oj = true) (hsi : ∀ cs b, oi.op ≠ .select cs b) (hsj : ∀ cs b, oj.op ≠ .select cs b)
    (hQ : ∀ c a w, ¬ Q (.panic c) a w) {K : Act → World → Prop} {a : Act} {w : World} (hy : yields0 P ops oi v a) (h : wpOp P ops Q j K (a.put oi.dst v) w) :
    wpOp P ops Q j (fun a' w' => yields0 P ops oi v a' ∧ K (a'.put oi.dst v) w') a w := by
  obtain ⟨h1, h2, h3⟩ := Oper.apart_spec hap
  have keep : ∀ (u : Value), yields0 P ops oi v (a.put oj.dst u) := fun u => hy.step (execOp_put oi hsi a oj.dst u h3) (wanted_put oi a oj.dst u h3)
  have fin : ∀ (u : Value) (w' : World), K ((a.put oi.dst v).put oj.dst u) w' → yields0 P ops oi v (a.put oj.dst u) ∧ K ((a.put oj.dst u).put oi.dst v) w' := by
    intro u w' hk
    exact ⟨keep u, by rw [← Act.put_comm a v u h2]; exact hk⟩
  unfold wpOp at *
  simp only [hj] at *
  rw [wanted_put oj a oi.dst v h1] at h
  by_cases hw : Region.wanted oj (yielded ops a.tmps) = true
  · rw [if_pos hw] at h ⊢
    rcases h with h | ⟨hasks, hlets⟩
    · left
      unfold Oper.wp at *
      rw [execOp_put oj hsj a oi.dst v h1] at h
      generalize (execOp a.eval oj).run P w = r at *
      cases r with
      | ok n w' =>
        cases n with
        | value u => exact fin u w' h
        | skip => exact fin undef w' h
        | defer d =>
          simp only [Oper.upon] at h ⊢
          refine ⟨?_, by rw [← Act.put_comm _ v undef h2, ← Act.put_defers]; exact h⟩
          have hy1 : yields0 P ops oi v { a with defers := d :: a.defers } := hy.step rfl rfl
          exact hy1.step (execOp_put oi hsi _ oj.dst undef h3) (wanted_put oi _ oj.dst undef h3)
        | enter f args =>
          simp only [Oper.upon] at h ⊢
          refine h.mono fun e w'' he => ?_
          cases e with
          | returned u => exact fin u w'' he
          | panicked c => exact (hQ _ _ _ he).elim
          | outgrown => exact he
        | row row args => exact Rows.mono h fun u w'' he => fin u w'' he
        | _ => exact h
      | halt x w' =>
        cases x <;> simp only [Oper.upon] at h ⊢
        exact (hQ _ _ _ h).elim
    · right
      refine ⟨?_, hlets⟩
      unfold Oper.asks at *
      rw [execOp_put oj hsj a oi.dst v h1] at hasks
      exact hasks
  · rw [if_neg hw] at h ⊢
    exact fin undef w h

end

/-- The operation hands back a value that no world changes. -/
def Lt0 (P : Program) (C : Ctx) (s : St) (o : Oper) (sv : SV) : Prop :=
  ∀ m a w, SimM C s m a w → ∃ v, (∀ w', (execOp a.eval o).run P w' = .ok (.value v) w') ∧ RS w (Gd C s.rows m w) m s.rows.length sv v

section
variable {late : List Nat} {P : Program} {C : Ctx} {ops : Array Oper} {K : St → Prop} {s : St} {n : Nat} {listed : Array Bool} {t : Nat} {ty : TypeId} {pos : String} {af : Array Edge}

theorem l0_move {x : Operand} : Lt0 P C s ⟨some t, .move x, ty, pos, af, none⟩ (getO s.env x) := fun m a w hs => ⟨a.eval x, fun _ => rfl, hs.get x⟩
theorem l0_move_pv {x : Operand} {f : Bool} {p : PV} (hx : getO s.env x = .pv f p) : Lt0 P C s ⟨some t, .move x, ty, pos, af, none⟩ (.pv f p) := by rw [← hx]; exact l0_move
theorem l0_move_ptr {x : Operand} {id e i o : Nat} (hx : getO s.env x = .ptr id e i o) : Lt0 P C s ⟨some t, .move x, ty, pos, af, none⟩ (.ptr id e i o) := by rw [← hx]; exact l0_move

end
end Go.Vl

/- A row that holds numbers alone points nowhere. -/
namespace Go.Vl
set_option linter.unusedVariables false
set_option linter.unusedSimpArgs false
open Go.RowKit

theorem clean_row {w : World} {G G' : Bool → Nat → Prop} {m m' : Nat → MV} {N N' : Nat} {mv : MV} {t : TypeId} {e : Nat} {nl : Option Bool} {f : Bool} {xs : List PV} (h : RowOK w G m N mv (.own t e nl f xs)) (hp : ∀ x ∈ xs, ∀ c ∈ x.cells, c.scal = true) :
    RowOK w G' m' N' mv (.own t e nl true xs) := by
  cases h with
  | own v t e nl f xs vs hown h1 h2 hw hr =>
    refine .own v t e nl true xs vs hown h1 h2 hw fun i x j c hx hc => ?_
    obtain ⟨u, hu, hq⟩ := hr i x j c hx hc
    exact ⟨u, hu, hq.scal_any (hp x (List.mem_of_getElem? hx) c (List.mem_of_getElem? hc))⟩

section
variable {P : Program} {C : Ctx} {Q : Go.Exit → St → Prop} {s : St} {ops : Array Oper}

theorem SimM.clean {m : Nat → MV} {a : Act} {w : World} (hs : SimM C s m a w) (id : Nat) {el e : Nat} {nl : Option Bool} {f : Bool} {xs : List PV} (hrow : s.rows[id]? = some (.own el e nl f xs)) (hp : ∀ x ∈ xs, ∀ c ∈ x.cells, c.scal = true) :
    SimM C ⟨s.n, s.env, s.rows.set id (.own el e nl true xs)⟩ m a w :=
  hs.storeRow (w' := w) (bo := none) ⟨_, hrow, rfl⟩ (fun _ e => by cases e) ⟨rfl, rfl, rfl, Nat.le_refl _, fun _ _ _ => rfl⟩ _ (fun hG => clean_row (hs.rows id _ hrow) hp)

theorem scal_ints (l : List Int) : ∀ x ∈ l.map intP, ∀ c ∈ x.cells, c.scal = true := by
  intro x hx c hc
  obtain ⟨n, _, rfl⟩ := List.mem_map.1 hx
  simp [PV.cells] at hc
  subst hc; rfl
theorem vo_clean {l : List Oper} (id : Nat) {el e : Nat} {nl : Option Bool} {f : Bool} {xs : List PV} (hrow : s.rows[id]? = some (.own el e nl f xs)) (hp : ∀ x ∈ xs, ∀ c ∈ x.cells, c.scal = true)
    (next : VO P C ops l Q ⟨s.n, s.env, s.rows.set id (.own el e nl true xs)⟩) : VO P C ops l Q s := fun a w ⟨m, hs⟩ => next a w ⟨m, hs.clean id hrow hp⟩
end
end Go.Vl

/- Statements at which two orders of evaluation are known: what holds in whatever order holds in both. -/
namespace Go.Vl
set_option linter.unusedVariables false
set_option linter.unusedSimpArgs false
open Go.RowKit

section
variable {P : Program} {ops : Array Oper} {Q : Go.Exit → Act → World → Prop}

theorem binds_sub {md : Region.Mode} {e : Edge} (h : Region.binds .any e = true) : Region.binds md e = true := by
  unfold Region.binds at *
  split at h <;> simp_all

theorem ready_sub {md : Region.Mode} {listed : Array Bool} {i : Nat} (h : i ∈ Region.ready md ops listed) : i ∈ Region.ready .any ops listed := by
  obtain ⟨h1, o, ho, h2⟩ := mem_ready.1 h
  exact mem_ready.2 ⟨h1, o, ho, fun e he hb => h2 e he (binds_sub hb)⟩

/-- An order in which all can come. -/
def orderB (md : Region.Mode) (ops : Array Oper) : List Nat → List Nat → Bool
  | seen, [] => (List.range ops.size).all fun j => seen.contains j
  | seen, i :: r => (match ops[i]? with
    | some o => o.after.all fun e => !Region.binds md e || seen.contains e.on
    | none => true) && orderB md ops (i :: seen) r

theorem order_spec {md : Region.Mode} {listed : Array Bool} (hsz : listed.size = ops.size) (hr : Region.ready md ops listed = []) : ∀ (perm seen : List Nat), (∀ j, seen.contains j = true → j < ops.size → listed.getD j false = true) → (∀ j, seen.contains j = true → j < ops.size) → (∀ i ∈ perm, i < ops.size) → orderB md ops seen perm = true → ∀ j, j < ops.size → listed.getD j false = true
  | [], seen, hs, _, _, h, j, hj => by
    simp only [orderB, List.all_eq_true, List.mem_range] at h
    exact hs j (h j hj) hj
  | i :: r, seen, hs, hlt, hp, h, j, hj => by
    simp only [orderB, Bool.and_eq_true] at h
    have hi := hp i List.mem_cons_self
    have hl : listed.getD i false = true := by
      have ho : ops[i]? = some ops[i] := Array.getElem?_eq_getElem hi
      rw [ho] at h
      have hi2 : i < listed.size := by omega
      by_cases hli : listed[i] = true
      · simp [Array.getD, hi2, hli]
      · exfalso
        have hm : i ∈ Region.ready md ops listed := mem_ready.2 ⟨by simp [Array.getD, hi2]; simpa using hli, _, ho, fun e he hb => by
          have h1 := Array.all_eq_true_iff_forall_mem.1 h.1 e he
          rw [hb] at h1
          have h2 : seen.contains e.on = true := by simpa using h1
          exact hs _ h2 (hlt _ h2)⟩
        rw [hr] at hm
        cases hm
    refine order_spec hsz hr r (i :: seen) (fun k hk hk2 => ?_) (fun k hk => ?_) (fun k hk => hp k (List.mem_cons_of_mem _ hk)) h.2 j hj
    · by_cases e : k = i
      · subst e; exact hl
      · refine hs k ?_ hk2
        simp only [List.contains_cons, Bool.or_eq_true, beq_iff_eq, e, false_or] at hk
        exact hk
    · by_cases e : k = i
      · subst e; exact hi
      · refine hlt k ?_
        simp only [List.contains_cons, Bool.or_eq_true, beq_iff_eq, e, false_or] at hk
        exact hk

theorem wpAny_md {md : Region.Mode} (H : ∀ listed : Array Bool, listed.size = ops.size → Region.ready md ops listed = [] → Region.ready .any ops listed = []) :
    ∀ (n : Nat) (listed : Array Bool) (a : Act) (w : World), listed.size = ops.size → wpAny P .any ops Q n listed a w → wpAny P md ops Q n listed a w
  | 0, listed, a, w, _, h => by
    refine ⟨?_, h.2⟩
    rw [List.eq_nil_iff_forall_not_mem]
    intro i hi
    have := ready_sub hi
    rw [h.1] at this
    cases this
  | n + 1, listed, a, w, hs, h => ⟨fun h0 => h.1 (H listed hs h0), fun i hi => wpOp_mono (fun a' w' h' => wpAny_md H n _ a' w' (by simpa using hs) h') (h.2 i (ready_sub hi))⟩

theorem order_any {md : Region.Mode} (perm : List Nat) (hp : perm.all (fun i => Nat.blt i ops.size) = true) (h : orderB md ops [] perm = true) (listed : Array Bool) (hsz : listed.size = ops.size) (hr : Region.ready md ops listed = []) : Region.ready .any ops listed = [] := by
  rw [List.all_eq_true] at hp
  have hall := order_spec hsz hr perm [] (fun j hj => by simp at hj) (fun j hj => by simp at hj) (fun i hi => blt_lt (hp i hi)) h
  rw [List.eq_nil_iff_forall_not_mem]
  intro i hi
  obtain ⟨h1, o, ho, _⟩ := mem_ready.1 hi
  have hi2 := (Array.getElem?_eq_some_iff.1 ho).1
  have := hall i hi2
  have hi3 : i < listed.size := by omega
  simp [Array.getD, hi3] at h1 this
  rw [h1] at this
  cases this
end

theorem vc_drawLD (late pt pg : List Nat) {P : Program} {C : Ctx} {ops : Array Oper} {s : St} {id : Nat} {Q : Go.Exit → St → Prop} (h1 : pt.all (fun i => Nat.blt i ops.size) = true) (h2 : orderB .text ops [] pt = true) (h3 : pg.all (fun i => Nat.blt i ops.size) = true) (h4 : orderB .gc ops [] pg = true)
    (h : VL late P C ops ops.size (Array.replicate ops.size false) (Q .normal) s) : VC P C (.region id ops true) Q s := by
  intro a w ⟨m, hs⟩
  refine wp_region_draw fun t => ?_
  have hany := any_of_anyL _ _ _ _ (h m a _ (hs.grow (w' := { w with drawn := w.drawn + 1 }) (ExtW.refl w) rfl rfl rfl))
  have hfin : ∀ e a' w', post0 C (Q .normal) e a' w' → post C Q e a' w' := by
    rintro e a' w' ⟨rfl, s', hs', hk⟩
    exact ⟨s', hs', hk⟩
  unfold Region.schedule
  split
  · exact wpOps_monoQ hfin _ _ _ (wpAny_sound ops.size t _ a _ hany)
  · split
    · exact wpOps_monoQ hfin _ _ _ (wpAny_sound ops.size _ _ a _ (wpAny_md (order_any pt h1 h2) _ _ _ _ (by simp) hany))
    · exact wpOps_monoQ hfin _ _ _ (wpAny_sound ops.size _ _ a _ (wpAny_md (order_any pg h3 h4) _ _ _ _ (by simp) hany))
end Go.Vl

/- Elements of several cells in a row of the call's own: one cell of them, or a part that is a struct, is read. -/
namespace Go.Vl
set_option linter.unusedVariables false
set_option linter.unusedSimpArgs false
open Go.RowKit

section
variable {P : Program} {C : Ctx} {Q : Go.Exit → St → Prop} {s : St} {ops : Array Oper} {rest : List Oper} {t : Nat} {ty : TypeId} {pos : String} {af : Array Edge}

end
end Go.Vl

/- A row takes another one in and may move: 'append' of a slice that is the program's own to a row whose slices are its own. -/
namespace Go.Vl
set_option linter.unusedVariables false
set_option linter.unusedSimpArgs false
open Go.RowKit

theorem SimM.joinRow {C : Ctx} {s : St} {m : Nat → MV} {a : Act} {w w' : World} (h : SimM C s m a w) {id j : Nat} (hne : id ≠ j) (hid : liveAt s.rows id) (hj : liveAt s.rows j) (hnb : C.nb ≤ id) (hnj : C.nb ≤ j)
    {bo : Option Nat} (hbo : ∀ b, bo = some b → (m id).S b) (hg : w.grownBy w' bo) (r : Row) (v : MV)
    (hb : ∀ b, v.S b → (m id).S b ∨ (m j).S b ∨ w.heap.size ≤ b)
    (hr : (∀ fr b, Gd C s.rows m w fr b → Gd C (((s.rows.map (Row.kill id)).set j .dead).set id r) (updM m id v) w' fr b ∧ w'.heap[b]? = w.heap[b]?) →
      RowOK w' (Gd C (((s.rows.map (Row.kill id)).set j .dead).set id r) (updM m id v) w') (updM m id v) s.rows.length v r) :
    SimM C ⟨s.n, killE id s.env, ((s.rows.map (Row.kill id)).set j .dead).set id r⟩ (updM m id v) a w' := by
  have hidl : id < s.rows.length := by
    obtain ⟨q, hq, _⟩ := hid
    exact (List.getElem?_eq_some_iff.1 hq).1
  have hjl : j < s.rows.length := by
    obtain ⟨q, hq, _⟩ := hj
    exact (List.getElem?_eq_some_iff.1 hq).1
  have hlive : ∀ i, liveAt (((s.rows.map (Row.kill id)).set j .dead).set id r) i → i ≠ j ∧ liveAt s.rows i := by
    intro i ⟨q, hq, hv⟩
    rw [List.getElem?_set] at hq
    split at hq
    · rename_i e; subst e; exact ⟨hne, hid⟩
    · rw [List.getElem?_set] at hq
      split at hq
      · simp [hjl] at hq; subst hq; cases hv
      · rename_i e; exact ⟨Ne.symm e, liveAt_kill ⟨q, hq, hv⟩⟩
  have hSof : ∀ i b, i ≠ j → liveAt s.rows i → (updM m id v i).S b → w.heap.size ≤ b ∨ ∃ k, liveAt s.rows k ∧ (m k).S b ∧ (k = i ∨ (i = id ∧ k = j)) := by
    intro i b hij hl hb1
    by_cases e : i = id
    · subst e
      rw [updM_same] at hb1
      rcases hb b hb1 with h1 | h1 | h1
      · exact .inr ⟨i, hl, h1, .inl rfl⟩
      · exact .inr ⟨j, hj, h1, .inr ⟨rfl, rfl⟩⟩
      · exact .inl h1
    · rw [updM_ne _ _ e] at hb1
      exact .inr ⟨i, hl, hb1, .inl rfl⟩
  have hbig : ∀ i b, i ≠ j → liveAt s.rows i → (updM m id v i).S b → w.heap.size ≤ b → i = id := by
    intro i b hij hl hb1 hsz
    by_cases e : i = id
    · exact e
    · rw [updM_ne _ _ e] at hb1
      have := h.lt hl hb1
      omega
  have hG : ∀ fr b, Gd C s.rows m w fr b → Gd C (((s.rows.map (Row.kill id)).set j .dead).set id r) (updM m id v) w' fr b ∧ w'.heap[b]? = w.heap[b]? := by
    refine Gd.step (fun b => (m id).S b) hg.size (fun k hk hn => hg.block k hk (fun e => hn (hbo k e.symm))) (fun k hk => ⟨id, hid, hk⟩) (fun b hlt ⟨i, hl, hbk⟩ => ?_)
    obtain ⟨h1, h2⟩ := hlive i hl
    rcases hSof i b h1 h2 hbk with h3 | ⟨k, h3, h4, _⟩
    · omega
    · exact ⟨k, h3, h4⟩
  have hlen : (((s.rows.map (Row.kill id)).set j .dead).set id r).length = s.rows.length := by simp
  exact {
    defs := h.defs
    size := h.size
    os := hg.os.trans h.os
    tape := hg.tape.trans h.tape
    output := hg.output.trans h.output
    hsz := Nat.le_trans h.hsz hg.size
    old := fun k hk hn => (hg.block k (by have := h.hsz; omega) (fun e => by have := h.newb id k hnb hid (hbo k e.symm); omega)).trans (h.old k hk hn)
    bor := fun i hi => by rw [updM_ne _ _ (by omega)]; exact h.bor i hi
    nbl := by have := h.nbl; show C.nb ≤ (((s.rows.map (Row.kill id)).set j .dead).set id r).length; rw [hlen]; exact this
    newb := fun i b hi hl hbk => by
      obtain ⟨h1, h2⟩ := hlive i hl
      rcases hSof i b h1 h2 hbk with h3 | ⟨k, h3, h4, h5⟩
      · have := h.hsz; omega
      · exact h.newb k b (by rcases h5 with rfl | ⟨_, rfl⟩ <;> omega) h3 h4
    dist := fun i1 i2 b h1 h2 hb1 hb2 => by
      obtain ⟨a1, a2⟩ := hlive i1 h1
      obtain ⟨c1, c2⟩ := hlive i2 h2
      rcases hSof i1 b a1 a2 hb1 with hz | ⟨k1, k2, k3, k4⟩
      · rw [hbig i1 b a1 a2 hb1 hz, hbig i2 b c1 c2 hb2 hz]
      · rcases hSof i2 b c1 c2 hb2 with hz | ⟨l1, l2, l3, l4⟩
        · rw [hbig i1 b a1 a2 hb1 hz, hbig i2 b c1 c2 hb2 hz]
        · have e := h.dist k1 l1 b k2 l2 k3 l3
          rcases k4 with rfl | ⟨rfl, rfl⟩ <;> rcases l4 with rfl | ⟨rfl, rfl⟩
          · exact e
          · exact absurd e a1
          · exact absurd e.symm c1
          · rfl
    rows := fun i q hq => by
      change (((s.rows.map (Row.kill id)).set j .dead).set id r)[i]? = some q at hq
      show RowOK w' _ _ (((s.rows.map (Row.kill id)).set j .dead).set id r).length _ q
      rw [hlen]
      rw [List.getElem?_set] at hq
      split at hq
      · rename_i e
        subst e
        simp [hidl] at hq
        subst hq
        rw [updM_same]
        exact hr hG
      · rename_i e
        rw [List.getElem?_set] at hq
        split at hq
        · simp [hjl] at hq; subst hq; exact .dead _
        · rename_i e2
          rw [getElem?_killRows] at hq
          simp only [Option.map_eq_some_iff] at hq
          obtain ⟨q', hq', rfl⟩ := hq
          rw [updM_ne _ _ (Ne.symm e)]
          exact RowOK.kill hG (fun k hk => updM_ne _ _ hk) (h.rows i q' hq') (fun hd b hbk => hg.block b (h.lt ⟨q', hq', hd⟩ hbk) (fun eb => e (h.dist id i b hid ⟨q', hq', hd⟩ (hbo b eb.symm) hbk)))
    env := fun u => by
      show RS w' _ _ (((s.rows.map (Row.kill id)).set j .dead).set id r).length (look (killE id s.env) u) _
      rw [hlen, look_killE]
      exact (h.env u).kill hG (fun k hk => updM_ne _ _ hk) }
end Go.Vl

/- Rows whose slices are their own: a slice literal of one such slice, and 'append'. -/
namespace Go.Vl
set_option linter.unusedVariables false
set_option linter.unusedSimpArgs false
open Go.RowKit

section
variable {P : Program} {C : Ctx} {Q : Go.Exit → St → Prop} {s : St} {ops : Array Oper} {rest : List Oper} {t : Nat} {ty : TypeId} {pos : String} {af : Array Edge}

/-- A slice of one element, which takes a row in. -/
theorem vo_build_tree {T el by' j : Nat} {d p : PV} {y : Operand} {rj : Row} (hI : ElInfo P T el 1 by' d) (ht : Nat.blt t s.n = true) (hy : getO s.env y = .ref j) (hrj : s.rows[j]? = some rj) (hlj : rj.live = true)
    (hp : p.fits 1) (hch : ∀ w G m N mv, RowOK w G m N mv rj → TP w p mv.v mv.S) (hnj : C.nb ≤ j)
    (next : VO P C ops rest Q ⟨s.n, (t, .ref s.rows.length) :: killE j s.env, (s.rows.map (Row.kill j)).set j .dead ++ [Row.tree el 1 (some false) none [p]]⟩) :
    VO P C ops (⟨some t, .buildSlice T 1 #[(0, y)], ty, pos, af, none⟩ :: rest) Q s := by
  obtain ⟨hT, ⟨inf, z, hinf, hsz, hbytes, hz, hzs, hzr⟩, hdf, he⟩ := hI
  refine vo_value (s1 := ⟨s.n, killE j s.env, (s.rows.map (Row.kill j)).set j .dead ++ [Row.tree el 1 (some false) none [p]]⟩) (sv := .ref s.rows.length) ht (fun m a w hs => ?_) next
  obtain ⟨hvy, hjl⟩ := hs.row hy
  have hTj := hch _ _ _ _ _ (hs.rows j _ hrj)
  have hone := hTj.oneCell
  have hljv : liveAt s.rows j := ⟨_, hrj, hlj⟩
  have hcells : (m j).v.cells.toList = [(m j).v] := oneCell_cells hone
  have hcs1 : (m j).v.cells.size = 1 := by
    have := congrArg List.length hcells
    simpa using this
  let w1 := w.alloc (.cells #[(m j).v] el)
  have hrun : (execOp a.eval ⟨some t, .buildSlice T 1 #[(0, y)], ty, pos, af, none⟩).run P w = .ok (.value (.slice (some ⟨w.heap.size, 0, none⟩) 1 1)) w1 := by
    have hf := Great.fill_whole he [(m j).v] ((Array.range (1 * 1)).map (z.cells[· % z.cells.size]!)) (by intro v hv; rw [List.mem_singleton.1 hv]; exact hcs1) (by simp)
    have hpl : (#[(0, y)].map fun (i, x) => (i, a.eval x)).toList = ([(m j).v].zipIdx 0).map fun x => (x.2, x.1) := by
      simp [hvy]
    have := run_buildSlice (P := P) w T el 1 (#[(0, y)].map fun (i, x) => (i, a.eval x)) #[(m j).v] inf z hT hinf hz (by rw [hsz]; omega) (by rw [hsz]; omega) (by rw [hsz, hpl]; rw [hf]; simp [hcells])
    simp only [execOp, Sem.run_bind, this, Result.andThen_ok]
    rfl
  have hheap : w1.heap[w.heap.size]? = some (.cells #[(m j).v] el (0, 0)) := heap_alloc_new w _
  have hown1 : w1.ownsRow 0 el 1 (.slice (some ⟨w.heap.size, 0, none⟩) 1 1) 1 [(m j).v] := ⟨rfl, .inr ⟨w.heap.size, 1, #[(m j).v], rfl, Nat.zero_le _, hheap, Nat.le_refl _, by simp [maxLen], rfl, rfl⟩⟩
  have hfits : ∀ (i : Nat) (x : PV), [p][i]? = some x → x.fits 1 := by
    intro i x hx
    match i, hx with
    | 0, hx => cases hx; exact hp
  have hadd := hs.addRow (w' := w1) (World.grownBy_alloc w _ none) (.tree el 1 (some false) (some (0, none)) [p]) ⟨.slice (some ⟨w.heap.size, 0, none⟩) 1 1, fun b => b = w.heap.size⟩
    (fun b hb => by rw [hb]; exact Nat.le_refl _) (fun hG => by
      refine .tree ⟨.slice (some ⟨w.heap.size, 0, none⟩) 1 1, fun b => b = w.heap.size⟩ el 1 (some false) (some (0, none)) [p] [(m j).v] (fun _ _ => False) hown1 (fun h => by cases h) (fun _ h => by cases h) hfits ?_ (fun _ _ _ h => h.elim) (fun _ _ h => h.elim) (fun _ _ _ h => h) ?_ (fun _ _ h => by cases h)
      · intro i x jj c u hx hc hu
        have hi : i = 0 := by
          have := (List.getElem?_eq_some_iff.1 hx).1
          simp at this; exact this
        subst hi
        have hjj : jj = 0 := by
          have hf := hfits 0 x hx
          have := (List.getElem?_eq_some_iff.1 hc).1
          rw [hf.1] at this; omega
        subst hjj
        simp at hu
        exact .inr ⟨rfl, fun b h => h, by rw [← hu]; exact hone⟩
      · intro b
        constructor
        · intro h; left; show blk _ = some b; rw [show b = w.heap.size from h]; rfl
        · rintro (h | ⟨_, h⟩)
          · simp [blk] at h; exact h.symm
          · exact h.elim)
  obtain ⟨hs1, _⟩ := hadd
  have hne : s.rows.length ≠ j := by omega
  have hlid : liveAt (s.rows ++ [Row.tree el 1 (some false) (some (0, none)) [p]]) s.rows.length := ⟨Row.tree el 1 (some false) (some (0, none)) [p], by simp, rfl⟩
  have hlj1 : liveAt (s.rows ++ [Row.tree el 1 (some false) (some (0, none)) [p]]) j := ⟨rj, by rw [List.getElem?_append_left hjl]; exact hrj, hlj⟩
  have hmj : updM m s.rows.length ⟨.slice (some ⟨w.heap.size, 0, none⟩) 1 1, fun b => b = w.heap.size⟩ j = m j := updM_ne _ _ (Ne.symm hne)
  have hjb : ∀ b', (m j).S b' → b' < w.heap.size := fun b' h => hs.lt hljv h
  have hab := hs1.absorb (w' := w1) (id := s.rows.length) (j := j) hne hlid hlj1 hs.nbl hnj (b0 := w.heap.size) (by rw [updM_same]) ⟨rfl, rfl, rfl, Nat.le_refl _, fun _ _ _ => rfl⟩
    (fun b => b = w.heap.size ∨ (m j).S b) (fun b hb => by rw [updM_same, hmj]; exact hb) (.tree el 1 (some false) none [p]) (fun hG => by
      rw [updM_same]
      refine .tree ⟨.slice (some ⟨w.heap.size, 0, none⟩) 1 1, fun b => b = w.heap.size ∨ (m j).S b⟩ el 1 (some false) none [p] [(m j).v] (fun q b => q = 0 ∧ (m j).S b) hown1 (fun h => by cases h) (fun _ h => by cases h) hfits ?_ (fun q q' b h h' => by rw [h.1, h'.1]) (fun q b h h2 => ?_) (fun q b h h2 => ?_) ?_ (fun _ _ h => by cases h)
      · intro i x jj c u hx hc hu
        have hi : i = 0 := by
          have := (List.getElem?_eq_some_iff.1 hx).1
          simp at this; exact this
        subst hi
        have hjj : jj = 0 := by
          have hf := hfits 0 x hx
          have := (List.getElem?_eq_some_iff.1 hc).1
          rw [hf.1] at this; omega
        subst hjj
        simp at hu hx
        subst hu
        subst hx
        have hc1 : c = p := by
          rw [hTj.cells1] at hc
          simpa using hc.symm
        subst hc1
        refine .inl ?_
        have hSi : (fun b' => (0 * 1 + 0 = 0) ∧ (m j).S b') = (m j).S := by funext b'; simp
        show TP w1 c (m j).v (fun b' => (0 * 1 + 0 = 0) ∧ (m j).S b')
        rw [hSi]
        exact hTj.mono fun b' h => (World.grownBy_alloc w (.cells #[(m j).v] el) none).block b' (hjb b' h) (by simp)
      · simp [blk] at h2
        have := hjb b h.2
        omega
      · simp at h
        omega
      · intro b
        constructor
        · rintro (h | h)
          · left; rw [h]; rfl
          · exact .inr ⟨0, rfl, h⟩
        · rintro (h | ⟨_, _, h⟩)
          · simp [blk] at h; exact .inl h.symm
          · exact .inr h)
  have hrows : (((s.rows ++ [Row.tree el 1 (some false) (some (0, none)) [p]]).map (Row.kill j)).set j .dead).set s.rows.length (.tree el 1 (some false) none [p]) = (s.rows.map (Row.kill j)).set j .dead ++ [Row.tree el 1 (some false) none [p]] := by
    rw [List.map_append, List.set_append_left _ _ (by simpa using hjl), List.set_append_right _ _ (by simp)]
    simp
  rw [hrows] at hab
  refine ⟨_, _, _, hrun, hab, ?_⟩
  have := RS.ref (w := w1) (G := Gd C ((s.rows.map (Row.kill j)).set j .dead ++ [Row.tree el 1 (some false) none [p]]) (updM (updM m s.rows.length ⟨.slice (some ⟨w.heap.size, 0, none⟩) 1 1, fun b => b = w.heap.size⟩) s.rows.length ⟨((updM m s.rows.length ⟨.slice (some ⟨w.heap.size, 0, none⟩) 1 1, fun b => b = w.heap.size⟩) s.rows.length).v, fun b => b = w.heap.size ∨ (m j).S b⟩) w1)
    (m := updM (updM m s.rows.length ⟨.slice (some ⟨w.heap.size, 0, none⟩) 1 1, fun b => b = w.heap.size⟩) s.rows.length ⟨((updM m s.rows.length ⟨.slice (some ⟨w.heap.size, 0, none⟩) 1 1, fun b => b = w.heap.size⟩) s.rows.length).v, fun b => b = w.heap.size ∨ (m j).S b⟩)
    (N := ((s.rows.map (Row.kill j)).set j .dead ++ [Row.tree el 1 (some false) none [p]]).length) s.rows.length (by simp)
  rw [updM_same] at this
  simpa [updM_same] using this

/-- 'append' of such a slice to a row whose slices are its own. -/
theorem vo_append_tree {x y : Operand} {id k T el by' : Nat} {nl nly : Option Bool} {xs ys : List PV} {d : PV} (hI : ElInfo P T el 1 by' d) (ht : Nat.blt t s.n = true) (hnb : C.nb ≤ id) (hnk : C.nb ≤ k) (hne : Nat.beq id k = false)
    (hx : getO s.env x = .ref id) (hrow : s.rows[id]? = some (.tree el 1 nl none xs)) (hy : getO s.env y = .ref k) (hrk : s.rows[k]? = some (.tree el 1 nly none ys))
    (hby : (xs.length + ys.length) * by' ≤ 140737488355328) (hmx : xs.length + ys.length ≤ 9223372036854775807) (hys : 0 < ys.length)
    (next : VO P C ops rest Q ⟨s.n, (t, .ref id) :: killE id s.env, ((s.rows.map (Row.kill id)).set k .dead).set id (Row.tree el 1 (if nl = some false then some false else none) none (xs ++ ys))⟩) :
    VO P C ops (⟨some t, .call ⟨.builtin .append, #[x, y], #[T, T]⟩, ty, pos, af, none⟩ :: rest) Q s := by
  obtain ⟨hT, ⟨inf, z, hinf, hsz, hbytes, hz, hzs, hzr⟩, hdf, he⟩ := hI
  refine vo_value (s1 := ⟨s.n, killE id s.env, ((s.rows.map (Row.kill id)).set k .dead).set id (Row.tree el 1 (if nl = some false then some false else none) none (xs ++ ys))⟩) (sv := .ref id) ht (fun m a w hs => ?_) next
  have hne : id ≠ k := fun e => by subst e; rw [Nat.beq_refl] at hne; cases hne
  obtain ⟨hvx, hidl⟩ := hs.row hx
  obtain ⟨hvy, hkl⟩ := hs.row hy
  have hlid : liveAt s.rows id := ⟨_, hrow, rfl⟩
  have hlk : liveAt s.rows k := ⟨_, hrk, rfl⟩
  have hR := hs.rows id _ hrow
  have hK := hs.rows k _ hrk
  have hdist := hs.dist
  have hlti : ∀ b, (m id).S b → b < w.heap.size := fun b h => hs.lt hlid h
  have hltk : ∀ b, (m k).S b → b < w.heap.size := fun b h => hs.lt hlk h
  generalize hmi : m id = vi at *
  generalize hmk : m k = vk at *
  cases hR with
  | tree vi t1 e1 nl1 h1' xs1 vals Sf hown h1 h2 hw hr hd hn hz1 hS hkn =>
    cases hK with
    | tree vk t2 e2 nl2 h2' ys1 vals2 Sf2 hown2 k1 k2 hw2 hr2 hd2 hn2 hz2 hS2 hkn2 =>
      have hl1 : vals.length = xs.length := by have := hown.1; omega
      have hl2 : vals2.length = ys.length := by have := hown2.1; omega
      rcases hown2.2 with ⟨ey, hn0⟩ | ⟨g2, cap2, cur2, ey, h02, hh2, hle2, hmx2, hsz2, htk2⟩
      · omega
      · have hcell2 := World.ownsRow.cells hown2 (show vk.v.ownBlock = some g2 by rw [ey]; rfl)
        have hone2 : ∀ u ∈ vals2, u.oneCell' = true := by
          intro u hu
          obtain ⟨q, hq⟩ := List.getElem?_of_mem hu
          have hq1 : q < ys.length := by rw [← hl2]; exact (List.getElem?_eq_some_iff.1 hq).1
          have hxq : ys[q]? = some ys[q] := List.getElem?_eq_getElem hq1
          have hf := hw2 q _ hxq
          have h0 : 0 < ys[q].cells.length := by rw [hf.1]; omega
          have hc : ys[q].cells[0]? = some (ys[q].cells[0]'h0) := List.getElem?_eq_getElem h0
          exact (hr2 q _ 0 _ u hxq hc (by simpa using hq)).oneCell
        obtain ⟨v', w', hrun, hown', hg, hnil, hblk⟩ := run_append_own_at (P := P) w 0 T ty el inf z 1 by' hT hinf hz hsz hbytes hzs he vi.v xs.length vals hown ⟨g2, 0, none⟩ ys.length cap2 vals2 (by omega) hcell2 hone2
          (by simpa [maxLen] using hmx) hby (Nat.zero_le _)
        have hvb : vi.v.ownBlock = blk vi.v := by
          rcases hown.2 with ⟨e, _⟩ | ⟨g, cp, cur, e, _⟩ <;> rw [e] <;> rfl
        have hv'b : v'.ownBlock = blk v' := by
          rcases hown'.2 with ⟨e, _⟩ | ⟨g, cp, cur, e, _⟩ <;> rw [e] <;> rfl
        have hrun' : (Builtin.append_ #[T, T] ty #[a.eval x, a.eval y]).run P w = .ok v' w' := by
          rw [hvx, hvy, ey]; exact hrun
        have hblk2 : ∀ b, blk v' = some b → vi.S b ∨ w.heap.size ≤ b := by
          intro b hb
          rw [← hv'b] at hb
          rcases hblk with h3 | h3
          · left; refine (hS b).2 (.inl ?_); rw [← hvb, ← h3]; exact hb
          · right; rw [h3] at hb; cases hb; exact Nat.le_refl _
        have hdisj : ∀ b, vi.S b → vk.S b → False := fun b h3 h4 => hne (hdist id k b hlid hlk (by rw [hmi]; exact h3) (by rw [hmk]; exact h4))
        let Sf' : Nat → Nat → Prop := fun q b => if q < xs.length then Sf q b else Sf2 (q - xs.length) b
        have hSfi : ∀ q b, Sf q b → vi.S b := fun q b h => (hS b).2 (.inr ⟨q, h⟩)
        have hSfk : ∀ q b, Sf2 q b → vk.S b := fun q b h => (hS2 b).2 (.inr ⟨q, h⟩)
        have hj := hs.joinRow (w' := w') (bo := blk vi.v) hne hlid hlk hnb hnk (fun b hb => by rw [hmi]; exact (hS b).2 (.inl hb)) (by rw [← hvb]; exact hg) (.tree el 1 (if nl = some false then some false else none) none (xs ++ ys)) ⟨v', fun b => blk v' = some b ∨ ∃ q, Sf' q b⟩
          (fun b hb => by
            rw [hmi, hmk]
            rcases hb with hb | ⟨q, hb⟩
            · rcases hblk2 b hb with h3 | h3
              · exact .inl h3
              · exact .inr (.inr h3)
            · simp only [Sf'] at hb
              split at hb
              · exact .inl (hSfi _ _ hb)
              · exact .inr (.inl (hSfk _ _ hb))) (fun hG => by
            refine .tree ⟨v', fun b => blk v' = some b ∨ ∃ q, Sf' q b⟩ el 1 _ none (xs ++ ys) (vals ++ vals2) Sf' (by simpa using hown') (fun h => by split at h <;> simp at h) (fun h => ?_) (fits_append hw hw2) ?_ ?_ ?_ ?_ (fun b => Iff.rfl) (fun _ _ h => by cases h)
            · split at h
              · rename_i hnl
                intro hv'
                exact h2 hnl (hnil.1 hv').1
              · simp at h
            · intro i x jj c u hx hc hu
              have hjj : jj = 0 := by
                have hf := fits_append hw hw2 i x hx
                have := (List.getElem?_eq_some_iff.1 hc).1
                rw [hf.1] at this; omega
              subst hjj
              simp only [Nat.mul_one, Nat.add_zero] at hu ⊢
              rw [List.getElem?_append] at hx hu
              refine .inl ?_
              rcases Nat.lt_or_ge i xs.length with hi | hi
              · rw [if_pos hi] at hx
                rw [if_pos (by omega)] at hu
                have hSi : Sf' i = Sf i := by funext b; simp [Sf', hi]
                rw [hSi]
                have h3 := (hr i x 0 c u hx hc (by simpa using hu)).tp
                simp only [Nat.mul_one, Nat.add_zero] at h3
                exact h3.mono fun b hb => hg.block b (hlti b (hSfi _ _ hb)) (fun e => hn i b hb (by rw [← hvb]; exact e.symm))
              · rw [if_neg (by omega)] at hx
                rw [if_neg (by omega)] at hu
                have hSi : Sf' i = Sf2 (i - xs.length) := by funext b; simp [Sf', Nat.not_lt.2 hi]
                rw [hSi]
                rw [hl1] at hu
                have h3 := (hr2 (i - xs.length) x 0 c u hx hc (by simpa using hu)).tp
                simp only [Nat.mul_one, Nat.add_zero] at h3
                exact h3.mono fun b hb => hg.block b (hltk b (hSfk _ _ hb)) (fun e => hdisj b ((hS b).2 (.inl (by rw [← hvb]; exact e.symm))) (hSfk _ _ hb))
            · intro q q' b h3 h4
              simp only [Sf'] at h3 h4
              split at h3 <;> split at h4
              · exact hd q q' b h3 h4
              · exact (hdisj b (hSfi _ _ h3) (hSfk _ _ h4)).elim
              · exact (hdisj b (hSfi _ _ h4) (hSfk _ _ h3)).elim
              · have := hd2 _ _ b h3 h4; omega
            · intro q b h3 h4
              have h5 : b < w.heap.size := by
                simp only [Sf'] at h3
                split at h3
                · exact hlti b (hSfi _ _ h3)
                · exact hltk b (hSfk _ _ h3)
              rw [← hv'b] at h4
              rcases hblk with h6 | h6
              · rw [h6, hvb] at h4
                simp only [Sf'] at h3
                split at h3
                · exact hn q b h3 h4
                · exact hdisj b ((hS b).2 (.inl h4)) (hSfk _ _ h3)
              · rw [h6] at h4; cases h4; omega
            · intro q b h3 h4
              simp only [Sf'] at h4
              rw [List.length_append] at h3
              split at h4
              · omega
              · exact hz2 _ b (by omega) h4)
        refine ⟨v', w', _, by simp [execOp, resolve, invoke, builtin, hrun'], hj, ?_⟩
        have := RS.ref (w := w') (G := Gd C (((s.rows.map (Row.kill id)).set k .dead).set id (Row.tree el 1 (if nl = some false then some false else none) none (xs ++ ys))) (updM m id ⟨v', fun b => blk v' = some b ∨ ∃ q, Sf' q b⟩) w') (m := updM m id ⟨v', fun b => blk v' = some b ∨ ∃ q, Sf' q b⟩)
          (N := (((s.rows.map (Row.kill id)).set k .dead).set id (Row.tree el 1 (if nl = some false then some false else none) none (xs ++ ys))).length) id (by simpa using hidl)
        rw [updM_same] at this
        exact this
end
end Go.Vl

/- A row whose slices are its own becomes a row of slices that are read alone. -/
namespace Go.Vl
set_option linter.unusedVariables false
set_option linter.unusedSimpArgs false
open Go.RowKit
section
variable {P : Program} {C : Ctx} {Q : Go.Exit → St → Prop} {s : St} {ops : Array Oper}

theorem SimM.treeown {m : Nat → MV} {a : Act} {w : World} (h : SimM C s m a w) (id : Nat) (hnb : C.nb ≤ id) {el e : Nat} {nl : Option Bool} {xs : List PV} (hrow : s.rows[id]? = some (.tree el e nl none xs)) :
    SimM C ⟨s.n, s.env, s.rows.set id (.own el e nl false xs)⟩ (updM m id (.of (m id).v)) a w := by
  have hidl : id < s.rows.length := (List.getElem?_eq_some_iff.1 hrow).1
  have hid : liveAt s.rows id := ⟨_, hrow, rfl⟩
  have hlv : ∀ j, liveAt (s.rows.set id (.own el e nl false xs)) j → liveAt s.rows j := by
    intro j ⟨q, hq, hv⟩
    rw [List.getElem?_set] at hq
    split at hq
    · rename_i e; subst e; exact hid
    · exact ⟨q, hq, hv⟩
  have hblk : ∀ b, blk (m id).v = some b → (m id).S b := by
    have := h.rows id _ hrow
    generalize m id = v at *
    cases this with
    | tree mv t e nl h xs vals Sf hown h1 h2 hw hr hd hn hz hS hkn => exact fun b hb => (hS b).2 (.inl hb)
  have hsub : ∀ j b, (updM m id (.of (m id).v) j).S b → (m j).S b := by
    intro j b hb
    by_cases e : j = id
    · subst e; rw [updM_same] at hb; exact hblk b hb
    · rwa [updM_ne _ _ e] at hb
  have hv : ∀ j, (updM m id (.of (m id).v) j).v = (m j).v := by
    intro j
    by_cases e : j = id
    · subst e; rw [updM_same]; rfl
    · rw [updM_ne _ _ e]
  have hG : ∀ f b, Gd C s.rows m w f b → Gd C (s.rows.set id (.own el e nl false xs)) (updM m id (.of (m id).v)) w f b ∧ w.heap[b]? = w.heap[b]? := fun f b hb =>
    Gd.step (fun _ => False) (Nat.le_refl _) (fun _ _ _ => rfl) (fun _ hf => hf.elim) (fun b _ ⟨j, hl, hbk⟩ => ⟨j, hlv j hl, hsub j b hbk⟩) f b hb
  exact {
    defs := h.defs
    size := h.size
    os := h.os
    tape := h.tape
    output := h.output
    hsz := h.hsz
    old := h.old
    bor := fun j hj => by rw [updM_ne _ _ (by omega)]; exact h.bor j hj
    nbl := by have := h.nbl; simp; omega
    newb := fun j b hj hl hb => h.newb j b hj (hlv j hl) (hsub j b hb)
    dist := fun i j b hi hj hbi hbj => h.dist i j b (hlv i hi) (hlv j hj) (hsub i b hbi) (hsub j b hbj)
    rows := fun j q hq => by
      change (s.rows.set id (.own el e nl false xs))[j]? = some q at hq
      rw [List.getElem?_set] at hq
      split at hq
      · rename_i e0
        subst e0
        simp [hidl] at hq
        subst hq
        rw [updM_same]
        have hR := h.rows id _ hrow
        have hTP := TP.of_tree hR
        have hlt : ∀ b, (m id).S b → b < w.heap.size := TP.lt hTP
        have hnewb := fun b => h.newb id b hnb hid
        have hdist := h.dist
        generalize hmv : m id = v at *
        cases hR with
        | tree mv t e nl hh xs vals Sf hown h1 h2 hw hr hd hn hz hS hkn =>
          refine .own v.v el e nl false xs vals hown h1 h2 hw (fun i x j c hx hc => ?_)
          have hcl : c ∈ x.cells := List.mem_of_getElem? hc
          have hil : i < xs.length := (List.getElem?_eq_some_iff.1 hx).1
          have hjl : j < e := by
            have h9 := (List.getElem?_eq_some_iff.1 hc).1
            rwa [(hw i x hx).1] at h9
          have hvl : vals.length = xs.length * e := hown.1
          have hq : i * e + j < vals.length := by
            rw [hvl]
            calc i * e + j < i * e + e := by omega
              _ = (i + 1) * e := by rw [Nat.succ_mul]
              _ ≤ xs.length * e := Nat.mul_le_mul_right _ hil
          refine ⟨vals[i * e + j], List.getElem?_eq_getElem hq, ?_⟩
          refine ((hr i x j c _ hx hc (List.getElem?_eq_getElem hq)).tp).rp fun b hb => ?_
          have hSb : v.S b := (hS b).2 (.inr ⟨_, hb⟩)
          refine ⟨hlt b hSb, fun ⟨k, hl, hbk⟩ => ?_, fun _ => .inr (hnewb b hSb), fun h => by cases h⟩
          have hk : k = id := by
            have h5 := hsub k b hbk
            exact hdist k id b (hlv k hl) hid h5 (by rw [hmv]; exact hSb)
          subst hk
          rw [updM_same] at hbk
          exact hn _ _ hb hbk
      · rename_i e0
        rw [updM_ne _ _ (Ne.symm e0)]
        simpa using (h.rows j q hq).monoV hG (Nat.le_refl _) (fun j _ => hv j) (fun _ _ _ => rfl)
    env := fun t => by simpa using (h.env t).monoV hG (Nat.le_refl _) (fun j _ => hv j) }

theorem vo_treeown {l : List Oper} (id : Nat) (hnb : C.nb ≤ id) {el e : Nat} {nl : Option Bool} {xs : List PV} (hrow : s.rows[id]? = some (.tree el e nl none xs))
    (next : VO P C ops l Q ⟨s.n, s.env, s.rows.set id (.own el e nl false xs)⟩) : VO P C ops l Q s := fun a w ⟨m, hs⟩ => next a w ⟨_, hs.treeown id hnb hrow⟩
theorem vc_treeown {code : Code} (id : Nat) (hnb : C.nb ≤ id) {el e : Nat} {nl : Option Bool} {xs : List PV} (hrow : s.rows[id]? = some (.tree el e nl none xs))
    (next : VC P C code Q ⟨s.n, s.env, s.rows.set id (.own el e nl false xs)⟩) : VC P C code Q s := fun a w ⟨m, hs⟩ => next a w ⟨_, hs.treeown id hnb hrow⟩
end
end Go.Vl

/- Structs whose cells are rows of the call's own: built, boxed, read, written. -/
namespace Go.Vl
set_option linter.unusedVariables false
set_option linter.unusedSimpArgs false
open Go.RowKit

def cellsG : SV → Option (List SV)
  | .ag ys => some ys
  | .pv f p => some (p.cells.map fun c => .pv (f || c.scal) c)
  | .ref id => some [.ref id]
  | .ptr id e i o => some [.ptr id e i o]
  | _ => none

def okG (rows : List Row) : SV → Bool
  | .ref id => match rows[id]? with
    | some r => r.live
    | none => false
  | _ => true

section
variable {P : Program} {C : Ctx} {Q : Go.Exit → St → Prop} {s : St}
variable {ops : Array Oper} {rest : List Oper} {t : Nat} {ty : TypeId} {pos : String} {af : Array Edge}

theorem row_one {w : World} {G : Bool → Nat → Prop} {m : Nat → MV} {N : Nat} {mv : MV} {r : Row} (h : RowOK w G m N mv r) (hl : r.live = true) : mv.v.oneCell' = true := by
  cases h with
  | dead => cases hl
  | gh => cases hl
  | own v t e nl fr xs vs hown => rcases hown.2 with ⟨rfl, _⟩ | ⟨g, cap, cur, rfl, _⟩ <;> rfl
  | var => rfl
  | mp => rfl
  | tree mv t e nl h xs vals Sf hown => rcases hown.2 with ⟨h, _⟩ | ⟨g, cap, cur, h, _⟩ <;> rw [h] <;> rfl

theorem cells_one {v : Value} (h : v.oneCell' = true) : v.cells = #[v] := by cases v <;> simp_all [Value.cells, Value.oneCell']

theorem SimM.cellsG {m : Nat → MV} {a : Act} {w : World} (h : SimM C s m a w) {x : Operand} {ys : List SV} (hy : cellsG (getO s.env x) = some ys) (hok : okG s.rows (getO s.env x) = true) :
    (a.eval x).cells.size = ys.length ∧ (∀ (j : Nat) (c : SV) (u : Value), ys[j]? = some c → (a.eval x).cells[j]? = some u → RS w (Gd C s.rows m w) m s.rows.length c u) ∧
      (∀ (j : Nat) (u : Value), (a.eval x).cells[j]? = some u → u.oneCell' = true) := by
  have hv := h.get x
  have one : ∀ (sv : SV) (v : Value), RS w (Gd C s.rows m w) m s.rows.length sv v → v.oneCell' = true → ys = [sv] →
      v.cells.size = ys.length ∧ (∀ (j : Nat) (c : SV) (u : Value), ys[j]? = some c → v.cells[j]? = some u → RS w (Gd C s.rows m w) m s.rows.length c u) ∧ (∀ (j : Nat) (u : Value), v.cells[j]? = some u → u.oneCell' = true) := by
    intro sv v hr h1 e
    subst e
    rw [cells_one h1]
    refine ⟨rfl, fun j c u hc hu => ?_, fun j u hu => ?_⟩
    · match j, hc, hu with
      | 0, hc, hu => simp at hc hu; subst hc; subst hu; exact hr
    · match j, hu with
      | 0, hu => simp at hu; subst hu; exact h1
  generalize getO s.env x = sv at *
  generalize a.eval x = v at *
  cases hv with
  | any => cases hy
  | val => cases hy
  | und => cases hy
  | adr => cases hy
  | tup => cases hy
  | sub => cases hy
  | clo => cases hy
  | ag vs us hl h9 h1 => cases hy; exact ⟨hl, h9, h1⟩
  | ref id hid =>
    simp only [Vl.cellsG, Option.some.injEq] at hy
    simp only [okG] at hok
    split at hok
    · rename_i r hr
      exact one _ _ (.ref id hid) (row_one (h.rows id r hr) hok) hy.symm
    · cases hok
  | ptr id e i o b hid hb =>
    simp only [Vl.cellsG, Option.some.injEq] at hy
    exact one _ _ (.ptr id e i o b hid hb) rfl hy.symm
  | pv fr p v hp =>
    simp only [Vl.cellsG, Option.some.injEq] at hy
    subst hy
    have hc := hp.cells
    refine ⟨by simpa using hc.1, fun j c u hcj hu => ?_, fun j u hu => ?_⟩
    · simp only [List.getElem?_map, Option.map_eq_some_iff] at hcj
      obtain ⟨c', hc', rfl⟩ := hcj
      obtain ⟨u', hu', hp'⟩ := hc.2 j c' hc'
      rw [hu] at hu'
      cases hu'
      cases hsc : c'.scal with
      | true => simp only [Bool.or_true]; exact .pv _ _ _ (hp'.scal_any hsc)
      | false => simp only [Bool.or_false]; exact .pv _ _ _ hp'
    · have hj : j < p.cells.length := by rw [← hc.1]; exact (Array.getElem?_eq_some_iff.1 hu).1
      obtain ⟨u', hu', hp'⟩ := hc.2 j _ (List.getElem?_eq_getElem hj)
      rw [hu] at hu'
      cases hu'
      refine hp'.oneCell ?_
      cases hp with
      | agg cs vs hl h1 h9 => exact h1 j _ (List.getElem?_eq_getElem hj)
      | _ => simp only [PV.cells] at hj ⊢; have : j = 0 := by simpa using hj
             subst this; rfl

/-- A struct is read from a variable. -/
theorem lt_load_varG {x : Operand} {T id e i o R n : Nat} {cs : List SV} {D : TypeDesc} {inf : TypeInfo} (hx : getO s.env x = .ptr id e i o) (hrow : s.rows[id]? = some (.var R cs))
    (hT : P.underlying T = some D) (hD : D.isRow = true) (hinf : P.info? T = some inf) (hsz : inf.size = n) (hle : Nat.ble (i * e + o + n) cs.length = true) :
    Lt P C s ⟨some t, .load T x, ty, pos, af, none⟩ (.ag ((cs.drop (i * e + o)).take n)) := by
  intro m a w hs
  have hle := Nat.le_of_ble_eq_true hle
  obtain ⟨b, cur, hv, _, hbk, hl, hr, h1⟩ := hs.var hx hrow
  have hget : ∀ j, ((cur.toList.drop (i * e + o)).take n)[j]? = if j < n then cur[i * e + o + j]? else none := by
    intro j
    rw [List.getElem?_take]
    split
    · rw [List.getElem?_drop]; simp
    · rfl
  refine ⟨.agg ((cur.toList.drop (i * e + o)).take n).toArray, fun w' hw' => ?_, ?_⟩
  · have := run_loadAt_mid (P := P) w' b (i * e + o) T ((cur.toList.drop (i * e + o)).take n) D (fun j v hj => by
      rw [hget] at hj
      split at hj
      · exact hw'.cell (by rw [cell_of_row w b _ cur R (0, 0) hbk]; exact hj)
      · cases hj) hT hD (by rw [hinf]; simp [hsz]; omega)
    simp [execOp, hv, this]
  · refine .ag _ _ (by simp; omega) (fun j c u hc hu => ?_) (fun j u hu => ?_)
    · have hu : ((cur.toList.drop (i * e + o)).take n)[j]? = some u := by simpa using hu
      rw [hget] at hu
      rw [List.getElem?_take, List.getElem?_drop] at hc
      split at hu
      · rename_i hj; rw [if_pos hj] at hc; exact hr _ c u hc hu
      · cases hu
    · have hu : ((cur.toList.drop (i * e + o)).take n)[j]? = some u := by simpa using hu
      rw [hget] at hu
      split at hu
      · exact h1 _ u hu
      · cases hu

theorem vo_load_varG {x : Operand} {T id e i o R n : Nat} {cs : List SV} {D : TypeDesc} {inf : TypeInfo} (ht : Nat.blt t s.n = true) (hx : getO s.env x = .ptr id e i o) (hrow : s.rows[id]? = some (.var R cs))
    (hT : P.underlying T = some D) (hD : D.isRow = true) (hinf : P.info? T = some inf) (hsz : inf.size = n) (hle : Nat.ble (i * e + o + n) cs.length = true)
    (next : VO P C ops rest Q (s.put t (.ag ((cs.drop (i * e + o)).take n)))) : VO P C ops (⟨some t, .load T x, ty, pos, af, none⟩ :: rest) Q s := vo_pure ht (lt_load_varG hx hrow hT hD hinf hsz hle) next

/-- A value of whatever cells is written into a variable. -/
theorem vo_store_varG {x y : Operand} {T id e i o R : Nat} {cs ys : List SV} {inf : TypeInfo} (hx : getO s.env x = .ptr id e i o) (hrow : s.rows[id]? = some (.var R cs))
    (hy : cellsG (getO s.env y) = some ys) (hok : okG s.rows (getO s.env y) = true) (hinf : P.info? T = some inf) (hsz : inf.size = ys.length) (hle : Nat.ble (i * e + o + ys.length) cs.length = true)
    (next : VO P C ops rest Q ⟨s.n, s.env, s.rows.set id (.var R (cs.take (i * e + o) ++ ys ++ cs.drop (i * e + o + ys.length)))⟩) :
    VO P C ops (⟨none, .store T x y, ty, pos, af, none⟩ :: rest) Q s := by
  refine vo_unit (s1 := { s with rows := s.rows.set id (.var R (cs.take (i * e + o) ++ ys ++ cs.drop (i * e + o + ys.length))) }) (fun m a w hs => ?_) next
  have hle := Nat.le_of_ble_eq_true hle
  obtain ⟨b, cur, hv, hm, hbk, hl, hr, h1⟩ := hs.var hx hrow
  obtain ⟨hvl, h, hone1⟩ := hs.cellsG hy hok
  have hone : ∀ u ∈ (a.eval y).cells.toList, u.oneCell' = true := by
    intro u hu
    obtain ⟨j, hj⟩ := List.getElem?_of_mem hu
    exact hone1 j u (by simpa using hj)
  generalize hvs : (a.eval y).cells = vs at *
  have hrun := run_storeCells_at P b (i * e + o) R vs.toList 0 cur w hbk (by simp; omega) hone
  simp only [Nat.add_zero, Array.length_toList, hvl] at hrun
  let cur' := (cur.toList.take (i * e + o) ++ vs.toList ++ cur.toList.drop (i * e + o + ys.length)).toArray
  refine ⟨w.setRow b cur', m, ?_, ?_⟩
  · simp [execOp, Instr.storeAt, hv, Instr.sureAddr, storeVar, sizeOf, typeInfo, hinf, hsz, hvs, hvl, hrun, cur']
  · refine hs.storeRow ⟨_, hrow, rfl⟩ (fun b' e => by cases e; rw [hm]; rfl) (grown_setRow w b cur') _ (fun hG => ?_)
    rw [hm]
    have hheap := setRow_heap w b cur cur' R _ hbk
    have hget : ∀ j, cur'[j]? = if j < i * e + o then cur[j]? else if j < i * e + o + ys.length then vs[j - (i * e + o)]? else cur[j]? := by
      intro j
      simp only [cur', List.getElem?_toArray]
      rw [List.getElem?_append, List.getElem?_append]
      simp only [List.length_append, List.length_take, Array.length_toList, hvl]
      have e1 : min (i * e + o) cur.size = i * e + o := by omega
      rw [e1]
      split
      · split
        · rw [List.getElem?_take, if_pos (by assumption)]; simp
        · simp
      · rw [List.getElem?_drop, show i * e + o + ys.length + (j - (i * e + o + ys.length)) = j by omega]; simp
    have hget2 : ∀ j, (cs.take (i * e + o) ++ ys ++ cs.drop (i * e + o + ys.length))[j]? = if j < i * e + o then cs[j]? else if j < i * e + o + ys.length then ys[j - (i * e + o)]? else cs[j]? := by
      intro j
      rw [List.getElem?_append, List.getElem?_append]
      simp only [List.length_append, List.length_take]
      have e1 : min (i * e + o) cs.length = i * e + o := by omega
      rw [e1]
      split
      · split
        · rw [List.getElem?_take, if_pos (by assumption)]
        · rfl
      · rw [if_neg (by omega), List.getElem?_drop, show i * e + o + ys.length + (j - (i * e + o + ys.length)) = j by omega]
    refine .var b R _ cur' hheap (by simp [cur']; omega) (fun j c u hc hu => ?_) (fun j u hu => ?_)
    · rw [hget2] at hc
      rw [hget] at hu
      split at hc
      · rename_i h3; rw [if_pos h3] at hu; exact (hr j c u hc hu).mono hG (Nat.le_refl _) (fun _ _ => rfl)
      · rename_i h3
        rw [if_neg h3] at hu
        split at hc
        · rename_i h4
          rw [if_pos h4] at hu
          exact (h _ c u hc hu).mono hG (Nat.le_refl _) (fun _ _ => rfl)
        · rename_i h4; rw [if_neg h4] at hu; exact (hr j c u hc hu).mono hG (Nat.le_refl _) (fun _ _ => rfl)
    · rw [hget] at hu
      split at hu
      · exact h1 j u hu
      · split at hu
        · exact hone u (by rw [Array.mem_toList_iff]; exact Array.mem_of_getElem? hu)
        · exact h1 j u hu

def applyG (pl : List (Nat × Nat)) : List SV → List (Nat × List SV) → Option (List SV)
  | cs, [] => some cs
  | cs, (k, p) :: r => match pl[k]? with
    | some (off, sz) => bif Nat.beq p.length sz && Nat.ble (off + sz) cs.length then applyG pl (cs.take off ++ p ++ cs.drop (off + sz)) r else none
    | none => none

def collectG (env : List (Nat × SV)) (rows : List Row) : List (Nat × Operand) → Option (List (Nat × List SV))
  | [] => some []
  | (k, x) :: r => match cellsG (getO env x), collectG env rows r with
    | some ys, some ps => bif okG rows (getO env x) then some ((k, ys) :: ps) else none
    | _, _ => none

theorem fill_applyG {w : World} {G : Bool → Nat → Prop} {m : Nat → MV} {N : Nat} {pl : List (Nat × Nat)} : ∀ (ps : List (Nat × List SV)) (vs : List (Nat × Value)) (cs out : List SV) (zc : Array Value), RS w G m N (.ag cs) (.agg zc) → applyG pl cs ps = some out →
    ps.length = vs.length → (∀ (j : Nat) (k : Nat) (p : List SV), ps[j]? = some (k, p) → ∃ v, vs[j]? = some (k, v) ∧ RS w G m N (.ag p) (.agg v.cells)) → ∃ zc', Instr.fill (pl.toArray[·]?) zc vs = some zc' ∧ RS w G m N (.ag out) (.agg zc')
  | [], [], cs, out, zc, h0, ha, _, _ => by simp [applyG] at ha; subst ha; exact ⟨zc, rfl, h0⟩
  | [], _ :: _, _, _, _, _, _, hl, _ => by simp at hl
  | _ :: _, [], _, _, _, _, _, hl, _ => by simp at hl
  | (k, p) :: ps, (k', v) :: vs, cs, out, zc, h0, ha, hl, hv => by
    obtain ⟨v', hv1, hv2⟩ := hv 0 k p rfl
    simp at hv1
    obtain ⟨rfl, hvv⟩ := hv1
    subst hvv
    simp only [applyG] at ha
    split at ha
    · rename_i off sz hpl
      cases hb : Nat.beq p.length sz && Nat.ble (off + sz) cs.length with
      | false => rw [hb] at ha; simp at ha
      | true =>
        rw [hb] at ha
        simp only [cond_true] at ha
        simp only [Bool.and_eq_true] at hb
        obtain ⟨b1, b2⟩ := hb
        have b1 := Nat.eq_of_beq_eq_true b1
        have b2 := Nat.le_of_ble_eq_true b2
        cases hv2 with
        | ag _ _ hvl hvr hv1 =>
        cases h0 with
        | ag _ _ hzl h0 h1 =>
          have hfold := Great.foldl_set off v.cells.toList 0 zc
          let zc2 := v.cells.zipIdx.foldl (fun cs (c, j) => cs.setIfInBounds (off + j) c) zc
          have hz2 : zc2 = (v.cells.toList.zipIdx 0).foldl (fun cs (x : Value × Nat) => cs.setIfInBounds (off + x.2) x.1) zc := by
            simp only [zc2]
            rw [← Array.foldl_toList, Array.toList_zipIdx]
          have hget : ∀ q, zc2[q]? = if off ≤ q ∧ q < off + sz then v.cells[q - off]? else zc[q]? := by
            intro q
            rw [hz2, hfold.2 q]
            simp only [Nat.add_zero, Array.length_toList, hvl, b1, hzl, Array.getElem?_toList]
            by_cases hq : off ≤ q ∧ q < off + sz
            · rw [if_pos ⟨hq.1, hq.2, by omega⟩, if_pos hq]
            · rw [if_neg (by omega), if_neg hq]
          have hcget : ∀ q, (cs.take off ++ p ++ cs.drop (off + sz))[q]? = if off ≤ q ∧ q < off + sz then p[q - off]? else cs[q]? := by
            intro q
            have ht : (cs.take off).length = off := by rw [List.length_take]; omega
            by_cases hq : off ≤ q ∧ q < off + sz
            · rw [if_pos hq, List.append_assoc, List.getElem?_append_right (by omega), ht, List.getElem?_append_left (by omega)]
            · rw [if_neg hq]
              rcases Nat.lt_or_ge q off with h | h
              · rw [List.append_assoc, List.getElem?_append_left (by omega), List.getElem?_take, if_pos h]
              · rw [List.getElem?_append_right (by rw [List.length_append]; omega), List.length_append, ht, b1, List.getElem?_drop]
                congr 1
                omega
          have hsz2 : zc2.size = zc.size := by rw [hz2]; exact hfold.1
          have hnew : RS w G m N (.ag (cs.take off ++ p ++ cs.drop (off + sz))) (.agg zc2) := by
            refine .ag _ _ ?_ (fun j c u hc hu => ?_) (fun j u hu => ?_)
            · rw [hsz2, hzl]
              simp only [List.length_append, List.length_take, List.length_drop]
              omega
            · rw [hcget] at hc
              rw [hget] at hu
              by_cases hq : off ≤ j ∧ j < off + sz
              · rw [if_pos hq] at hc hu
                exact hvr _ c u hc hu
              · rw [if_neg hq] at hc hu
                exact h0 j c u hc hu
            · rw [hget] at hu
              by_cases hq : off ≤ j ∧ j < off + sz
              · rw [if_pos hq] at hu; exact hv1 _ u hu
              · rw [if_neg hq] at hu; exact h1 j u hu
          obtain ⟨zc', hf, hr⟩ := fill_applyG ps vs _ out zc2 hnew ha (by simpa using hl) (fun j k2 p2 hj => by
            have := hv (j + 1) k2 p2 (by simpa using hj)
            simpa using this)
          refine ⟨zc', ?_, hr⟩
          have hpl2 : pl.toArray[k']? = some (off, sz) := by simpa using hpl
          simp only [Instr.fill, hpl2]
          rw [if_neg (by simp only [bne_iff_ne, ne_eq, Bool.or_eq_true, decide_eq_true_eq, hvl, b1, hzl]; simp; omega)]
          exact hf
    · cases ha

theorem collectG_vals {m : Nat → MV} {a : Act} {w : World} (h : SimM C s m a w) : ∀ (l : List (Nat × Operand)) (ps : List (Nat × List SV)), collectG s.env s.rows l = some ps →
    ps.length = l.length ∧ ∀ (j : Nat) (k : Nat) (p : List SV), ps[j]? = some (k, p) → ∃ v, (l.map fun q => (q.1, a.eval q.2))[j]? = some (k, v) ∧ RS w (Gd C s.rows m w) m s.rows.length (.ag p) (.agg v.cells)
  | [], ps, hc => by
    simp [collectG] at hc
    subst hc
    exact ⟨rfl, fun j k p hx => by simp at hx⟩
  | (k, x) :: l, ps, hc => by
    simp only [collectG] at hc
    split at hc
    · rename_i ys ps' hx hr
      cases hok : okG s.rows (getO s.env x) with
      | false => rw [hok] at hc; cases hc
      | true =>
        rw [hok] at hc
        simp only [cond_true, Option.some.injEq] at hc
        subst hc
        obtain ⟨h2, h3⟩ := collectG_vals h l ps' hr
        obtain ⟨g1, g2, g3⟩ := h.cellsG hx hok
        refine ⟨by simp [h2], fun j k2 p2 hy => ?_⟩
        cases j with
        | zero => simp at hy; obtain ⟨rfl, rfl⟩ := hy; exact ⟨a.eval x, rfl, .ag _ _ g1 g2 g3⟩
        | succ j =>
          simp only [List.getElem?_cons_succ] at hy
          obtain ⟨v, hv1, hv2⟩ := h3 j k2 p2 hy
          exact ⟨v, by simpa using hv1, hv2⟩
    · cases hc

/-- A struct is built of whatever cells. -/
theorem lt_buildG {S : TypeId} {parts : Array (Nat × Operand)} {pl : List (Nat × Nat)} {zs : List PV} {out : List SV} {ps : List (Nat × List SV)} (hS : StInfo P S pl zs)
    (hp : collectG s.env s.rows parts.toList = some ps) (ha : applyG pl (zs.map fun c => .pv true c) ps = some out) : Lt P C s ⟨some t, .build S parts, ty, pos, af, none⟩ (.ag out) := by
  intro m a w hs
  obtain ⟨⟨fs, hu⟩, zc, hb, hz⟩ := hS
  obtain ⟨h1, h2⟩ := collectG_vals hs parts.toList ps hp
  have hz0 : RS w (Gd C s.rows m w) m s.rows.length (.ag (zs.map fun c => .pv true c)) (.agg zc) := by
    have := hz w (Gd C s.rows m w true)
    cases this with
    | agg _ _ hl h1 h =>
      refine .ag _ _ (by simpa using hl) (fun j c u hc hu => ?_) (fun j u hu => ?_)
      · simp only [List.getElem?_map, Option.map_eq_some_iff] at hc
        obtain ⟨c', hc', rfl⟩ := hc
        exact .pv _ _ _ (h j c' u hc' hu)
      · have hj : j < zs.length := by rw [← hl]; exact (Array.getElem?_eq_some_iff.1 hu).1
        exact (h j _ u (List.getElem?_eq_getElem hj) hu).oneCell (h1 j _ (List.getElem?_eq_getElem hj))
  obtain ⟨zc', hf, hr⟩ := fill_applyG ps (parts.toList.map fun q => (q.1, a.eval q.2)) _ out zc hz0 ha (by simp [h1]) h2
  refine ⟨.agg zc', fun w' _ => ?_, hr⟩
  have hpl : (parts.map fun (i, x) => (i, a.eval x)).toList = parts.toList.map fun q => (q.1, a.eval q.2) := by rw [Array.toList_map]
  have := run_build (P := P) w' S (parts.map fun (i, x) => (i, a.eval x)) zc' (by rw [hpl, hb]; exact hf)
  simp only [execOp, Sem.run_bind, this, Result.andThen_ok]
  rfl

theorem vo_buildG {S : TypeId} {parts : Array (Nat × Operand)} {pl : List (Nat × Nat)} {zs : List PV} {out : List SV} {ps : List (Nat × List SV)} (hS : StInfo P S pl zs) (ht : Nat.blt t s.n = true)
    (hp : collectG s.env s.rows parts.toList = some ps) (ha : applyG pl (zs.map fun c => .pv true c) ps = some out) (next : VO P C ops rest Q (s.put t (.ag out))) : VO P C ops (⟨some t, .build S parts, ty, pos, af, none⟩ :: rest) Q s :=
  vo_pure ht (lt_buildG hS hp ha) next

end
end Go.Vl

/- 'append' to a row whose cells' type is not known (it was taken out of another), and a tree's cell that is known. -/
namespace Go.Vl
set_option linter.unusedVariables false
set_option linter.unusedSimpArgs false
open Go.RowKit
section
variable {P : Program} {C : Ctx} {Q : Go.Exit → St → Prop} {s : St} {ops : Array Oper} {rest : List Oper} {t : Nat} {ty : TypeId} {pos : String} {af : Array Edge}

theorem vo_valueX {α : Type} {op : Op} {s1 : α → St} {sv : SV} (ht : ∀ x, Nat.blt t (s1 x).n = true)
    (hrun : ∀ m a w, SimM C s m a w → ∃ x v w' m', (execOp a.eval ⟨some t, op, ty, pos, af, none⟩).run P w = .ok (.value v) w' ∧ SimM C (s1 x) m' a w' ∧ RS w' (Gd C (s1 x).rows m' w') m' (s1 x).rows.length sv v)
    (next : ∀ x, VO P C ops rest Q ((s1 x).put t sv)) : VO P C ops (⟨some t, op, ty, pos, af, none⟩ :: rest) Q s := by
  intro a w ⟨m, hs⟩
  obtain ⟨x, v, w', m', hr, hs', hv⟩ := hrun m a w hs
  refine wpList_plain rfl fun K hK => ?_
  unfold Oper.wp
  rw [hr, Oper.upon_value]
  exact hK _ _ (next x _ _ ⟨m', hs'.put (blt_lt (ht x)) hv⟩)

theorem run_none_any {w : World} {T ty el R : TypeId} {i : TypeInfo} {size n : Nat} {v : Value} {xs : List Value} (hT : P.underlying T = some (.slice el)) (hi : P.info? el = some i) (hown : w.ownsRow 0 R size v n xs) :
    (Builtin.append_ #[T, T] ty #[v, .slice none 0 0]).run P w = .ok v w := by
  rcases hown.2 with ⟨rfl, rfl⟩ | ⟨g, cap, cur, rfl, _, _, hnc, _⟩
  · simp [Builtin.append_, run_underlying hT, sizeOf, typeInfo, hi, Builtin.lenOf, Builtin.firstCells, loadCells, loadCellsFrom]
  · simp [Builtin.append_, run_underlying hT, sizeOf, typeInfo, hi, Builtin.lenOf, Builtin.firstCells, loadCells, loadCellsFrom, hnc, storeCells]

theorem run_append_any (w : World) {T ty el R : TypeId} {i : TypeInfo} {z : Value} {size bytes : Nat} (hT : P.underlying T = some (.slice el)) (hi : P.info? el = some i) (hz : i.zero = some z) (hsize : i.size = size) (hby : i.bytes = bytes) (hzs : z.cells.size = size) (hsz : 0 < size)
    {v : Value} {n : Nat} {xs : List Value} (hown : w.ownsRow 0 R size v n xs) (ad : Addr) {k : Nat} (c : Nat) {news : List Value} (hl : news.length = k * size) (hnews : ∀ j u, news[j]? = some u → w.cell? (ad.add j) = some u) (h1 : ∀ u ∈ news, u.oneCell' = true)
    (h63 : n + k ≤ maxLen) (hbytes : (n + k) * bytes ≤ 140737488355328) :
    ∃ v' w' R2, (Builtin.append_ #[T, T] ty #[v, .slice (some ad) k c]).run P w = .ok v' w' ∧ w'.ownsRow 0 R2 size v' (n + k) (xs ++ news) ∧ w.grownBy w' v.ownBlock ∧ (v' = .slice none 0 0 → v = .slice none 0 0) ∧
      (v'.ownBlock = v.ownBlock ∨ v'.ownBlock = some w.heap.size) := by
  rcases hown.2 with ⟨rfl, rfl⟩ | ⟨g, cap, cur, rfl, _, hg, hnc, hcm, hcs, htake⟩
  · have hx : xs = [] := List.eq_nil_of_length_eq_zero (by simpa using hown.1)
    subst hx
    obtain ⟨v', w', a1, a2, a3, a4, a5⟩ := run_append_own_at (P := P) w 0 T ty el i z size bytes hT hi hz hsize hby hzs hsz (.slice none 0 0) 0 [] (World.ownsRow_nil w 0 el size) ad k c news hl hnews h1 h63 hbytes (Nat.zero_le _)
    exact ⟨v', w', el, a1, a2, a3, fun h => (a4.1 h).1, a5⟩
  · subst hsize hby
    have hlen : (xs ++ news).length = (n + k) * i.size := by rw [List.length_append, hown.1, hl, Nat.add_mul]
    by_cases hroom : n + k ≤ cap
    · have hfit : n * i.size + news.length ≤ cur.size := by rw [hl, hcs, ← Nat.add_mul]; exact Nat.mul_le_mul_right _ hroom
      have hf := run_firstCells_some (P := P) w i.size k ad k c news hl hnews
      have hst := run_storeCells_at P g (n * i.size) R news 0 cur w hg (by simpa using hfit) h1
      simp only [Nat.add_zero] at hst
      have hrun : (Builtin.append_ #[T, T] ty #[.slice (some ⟨g, 0, none⟩) n cap, .slice (some ad) k c]).run P w = .ok (.slice (some ⟨g, 0, none⟩) (n + k) cap) (w.setRow g (cur.toList.take (n * i.size) ++ news ++ cur.toList.drop (n * i.size + news.length)).toArray) := by
        simp [Builtin.append_, run_underlying hT, sizeOf, typeInfo, hi, Builtin.lenOf, hroom, hf, Addr.add_lit, hst]
      refine ⟨_, _, R, hrun, ⟨hlen, .inr ⟨g, cap, _, rfl, Nat.zero_le _, setRow_heap w g cur _ R _ hg, hroom, hcm, ?_, ?_⟩⟩,
        ⟨rfl, rfl, rfl, by simp, fun j _ hj => setRow_other w g j _ (fun e => hj (by simp [Value.ownBlock, e]))⟩, (fun h => by cases h), .inl rfl⟩
      · simp only [List.size_toArray, List.length_append, List.length_take, List.length_drop, Array.length_toList]
        omega
      · rw [htake, ← hlen]
        exact List.take_left
    · have holds : ∀ j u, xs[j]? = some u → w.cell? ((⟨g, 0, none⟩ : Addr).add j) = some u := hown.cells (g := g) rfl
      have hr := run_append_grow (P := P) w T ty el i z hT hi hz ⟨g, 0, none⟩ n cap xs hown.1 holds ad k c news hl hnews (by omega) (by simp only [maxLen] at h63; omega) (growslice_fits (by omega) hbytes)
      have hge := grownCap_ge w (n + k) cap el
      refine ⟨_, _, el, hr, ⟨hlen, .inr ⟨w.heap.size, _, _, rfl, Nat.zero_le _, heap_alloc_new w.drew _, hge, grownCap_le_maxLen w (n + k) cap el h63, ?_, ?_⟩⟩, ⟨rfl, rfl, rfl, by simp, fun j hj _ => heap_alloc_old w.drew _ hj⟩, (fun h => by cases h), .inr rfl⟩
      · simp only [Array.size_append, List.size_toArray, size_zeroCells, hzs, hown.1, hl, ← Nat.add_mul]
        congr 1
        omega
      · simp only [Array.toList_append, List.append_assoc]
        rw [← List.append_assoc, ← hlen]
        exact List.take_left

/-- 'append' to a row whose cells' type is not known. -/
theorem vo_appendU {x y : Operand} {id T el R e by' : Nat} {nl : Option Bool} {fr f : Bool} {xs ys : List PV} {d : PV} (hI : ElInfo P T el e by' d) (ht : Nat.blt t s.n = true) (hnb : C.nb ≤ id)
    (hx : getO s.env x = .ref id) (hrow : s.rows[id]? = some (.own R e nl fr xs)) (hy : srcOf s.rows (getO s.env y) = some (f, e, ys))
    (hby : (xs.length + ys.length) * by' ≤ 140737488355328) (hmx : xs.length + ys.length ≤ 9223372036854775807)
    (next : ∀ R2, VO P C ops rest Q ⟨s.n, (t, .ref id) :: killE id s.env, (s.rows.map (Row.kill id)).set id (.own R2 e (if nl = some false then some false else none) (fr && f) (xs ++ ys))⟩) :
    VO P C ops (⟨some t, .call ⟨.builtin .append, #[x, y], #[T, T]⟩, ty, pos, af, none⟩ :: rest) Q s := by
  obtain ⟨hT, ⟨inf, z, hinf, hsz, hbytes, hz, hzs, hzr⟩, hfit, he⟩ := hI
  refine vo_valueX (s1 := fun R2 => { s with env := killE id s.env, rows := (s.rows.map (Row.kill id)).set id (.own R2 e (if nl = some false then some false else none) (fr && f) (xs ++ ys)) }) (sv := .ref id) (fun _ => ht) (fun m a w hs => ?_) next
  obtain ⟨hv, hid⟩ := hs.row hx
  have hlive : liveAt s.rows id := ⟨_, hrow, rfl⟩
  have hR := hs.rows id _ hrow
  have hsrc := hs.src hy he
  obtain ⟨ao, cap0, hshape, hcap0⟩ := own_shape hR
  have hV : (m id).v = .slice ao xs.length cap0 := by rw [hshape]; rfl
  have hSb : ∀ b, blk (m id).v = some b → (m id).S b := by rw [hshape]; exact fun _ h => h
  have hob : (m id).v.ownBlock = blk (m id).v := ownBlock_blk hV
  have hdone : ∀ (v' : Value) (w' : World), (Builtin.append_ #[T, T] ty #[a.eval x, a.eval y]).run P w = .ok v' w' →
      ∃ v' w' , (execOp a.eval ⟨some t, .call ⟨.builtin .append, #[x, y], #[T, T]⟩, ty, pos, af, none⟩).run P w = .ok (.value v') w' ∧ (Builtin.append_ #[T, T] ty #[a.eval x, a.eval y]).run P w = .ok v' w' := by
    intro v' w' h
    exact ⟨v', w', by simp [execOp, resolve, invoke, builtin, h], h⟩
  have hRk : ∀ R2 : TypeId, Row.kill id (.own R2 e (if nl = some false then some false else none) (fr && f) (xs ++ ys)) = .own R2 e (if nl = some false then some false else none) (fr && f) (xs ++ ys) := fun _ => rfl
  have fin : ∀ (R2 : TypeId) (v' : Value) (w' : World) (news : List Value), (Builtin.append_ #[T, T] ty #[a.eval x, a.eval y]).run P w = .ok v' w' → w.grownBy w' (blk (m id).v) → (∀ vs, w.ownsRow 0 R e (m id).v xs.length vs → w'.ownsRow 0 R2 e v' (xs.length + ys.length) (vs ++ news)) →
      (v' = .slice none 0 0 → (m id).v = .slice none 0 0) → (∀ b, blk v' = some b → (m id).S b ∨ w.heap.size ≤ b) →
      (∀ (i : Nat) (x : PV) (j : Nat) (c : PV), ys[i]? = some x → x.cells[j]? = some c → ∃ u, news[i * e + j]? = some u ∧ RP w (Gd C s.rows m w f) c u) → (∀ (i : Nat) (x : PV), ys[i]? = some x → x.fits e) →
      ∃ (R2 : TypeId) (v : Value) (w' : World) (m' : Nat → MV), (execOp a.eval ⟨some t, .call ⟨.builtin .append, #[x, y], #[T, T]⟩, ty, pos, af, none⟩).run P w = .ok (.value v) w' ∧
        SimM C { s with env := killE id s.env, rows := (s.rows.map (Row.kill id)).set id (.own R2 e (if nl = some false then some false else none) (fr && f) (xs ++ ys)) } m' a w' ∧
        RS w' (Gd C ((s.rows.map (Row.kill id)).set id (.own R2 e (if nl = some false then some false else none) (fr && f) (xs ++ ys))) m' w') m' ((s.rows.map (Row.kill id)).set id (.own R2 e (if nl = some false then some false else none) (fr && f) (xs ++ ys))).length (.ref id) v := by
    intro R2 v' w' news hrun hg hown hnil hblk hnews hfits
    refine ⟨R2, v', w', updM m id (.of v'), by simp [execOp, resolve, invoke, builtin, hrun], ?_, ?_⟩
    · refine hs.moveRow hlive hnb hSb hg _ (.of v') (hRk R2) hblk (fun hG => ?_)
      generalize hmv : m id = v at *
      cases hR with
      | own v t' e nl fr xs vs hown0 h1 h2 hw hr =>
        have hw0 : ∀ fl b, Gd C s.rows m w fl b → Gd C s.rows m w false b := fun fl b h => h.weak
        have hcomb : ∀ b, (Gd C s.rows m w fr b ∨ Gd C s.rows m w f b) → Gd C s.rows m w (fr && f) b := by
          intro b hb
          cases hf1 : fr && f with
          | false => rcases hb with hb | hb <;> exact hb.weak
          | true =>
            simp only [Bool.and_eq_true] at hf1
            obtain ⟨rfl, rfl⟩ := hf1
            rcases hb with hb | hb <;> exact hb
        refine .own v' R2 e _ _ (xs ++ ys) (vs ++ news) (by simpa using hown vs hown0) (fun h => by split at h <;> simp at h) (fun h => ?_) (fits_append hw hfits)
          (own_append (G := Gd C s.rows m w (fr && f)) (hG _) hown0.1 (fun i x j c hx hc => ?_) hw (fun i x j c hx hc => ?_))
        · split at h
          · rename_i hnl
            intro hv'
            exact h2 hnl (hnil hv')
          · simp at h
        · obtain ⟨u, hu, hp⟩ := hr i x j c hx hc
          exact ⟨u, hu, hp.mono fun b hb => ⟨hcomb b (.inl hb), rfl⟩⟩
        · obtain ⟨u, hu, hp⟩ := hnews i x j c hx hc
          exact ⟨u, hu, hp.mono fun b hb => hG _ b (hcomb b (.inr hb))⟩
    · have := RS.ref (w := w') (G := Gd C ((s.rows.map (Row.kill id)).set id (.own R2 e (if nl = some false then some false else none) (fr && f) (xs ++ ys))) (updM m id (.of v')) w') (m := updM m id (.of v'))
        (N := ((s.rows.map (Row.kill id)).set id (.own R2 e (if nl = some false then some false else none) (fr && f) (xs ++ ys))).length) id (by simpa using hid)
      rw [updM_same] at this
      exact this
  rcases hsrc with ⟨hvy, rfl⟩ | ⟨ad, len, cap, news, hvy, rfl, hnl, hnews, hnr, hn1, hfy⟩
  · have hown1 : ∃ vs, w.ownsRow 0 R e (m id).v xs.length vs := by
      generalize m id = v at *
      cases hR with
      | own v t' e nl fr xs vs hown0 => exact ⟨vs, hown0⟩
    obtain ⟨vs1, hown1⟩ := hown1
    refine fin R (m id).v w [] ?_ ⟨rfl, rfl, rfl, Nat.le_refl _, fun _ _ _ => rfl⟩ (fun vs h => by simpa using h) (fun h => h) (fun b hb => .inl (hSb b hb)) (fun i x j c hx => by simp at hx) (fun i x hx => by simp at hx)
    rw [hv, hvy]
    exact run_none_any hT hinf hown1
  · have hown1 : ∃ vs, w.ownsRow 0 R e (m id).v xs.length vs := by
      generalize m id = v at *
      cases hR with
      | own v t' e nl fr xs vs hown0 => exact ⟨vs, hown0⟩
    obtain ⟨vs1, hown1⟩ := hown1
    obtain ⟨v', w', R2, hrun, hown', hg, hnil, hblk⟩ := run_append_any w hT hinf hz hsz hbytes hzs he hown1 ad cap hnl hnews hn1
      (by simpa [maxLen] using hmx) hby
    have hv'shape : v'.ownBlock = blk v' := by
      rcases hown'.2 with ⟨rfl, _⟩ | ⟨g, cp, cur, rfl, _⟩ <;> rfl
    refine fin R2 v' w' news (by rw [hv, hvy]; exact hrun) (by rw [← hob]; exact hg) (fun vs h => ?_) (fun h => hnil h) (fun b hb => ?_) hnr hfy
    · have e1 : vs = vs1 := by
        rcases h.2 with ⟨e1, h0⟩ | ⟨g, cp, cur, e1, _, hh, _, _, _, htk⟩
        · have l1 := h.1
          have l2 := hown1.1
          rw [h0] at l1 l2
          simp at l1 l2
          rw [l1, l2]
        · rcases hown1.2 with ⟨e2, h0⟩ | ⟨g2, cp2, cur2, e2, _, hh2, _, _, _, htk2⟩
          · rw [e1] at e2; cases e2
          · rw [e1] at e2
            cases e2
            rw [hh] at hh2
            cases hh2
            rw [← htk, ← htk2]
      rw [e1]
      exact hown'
    · rw [← hv'shape] at hb
      rcases hblk with h1 | h1
      · left; refine hSb b ?_; rw [← hob, ← h1]; exact hb
      · right; rw [h1] at hb; cases hb; exact Nat.le_refl _


end
section
variable {late : List Nat} {P : Program} {C : Ctx} {ops : Array Oper} {K : St → Prop} {s s1 : St} {n : Nat} {listed : Array Bool}
def StepV (late : List Nat) (P : Program) (C : Ctx) (ops : Array Oper) (n : Nat) (listed : Array Bool) (K : St → Prop) (s : St) (i : Nat) : Prop :=
  ∀ m a w, SimM C s m a w → wpOp P ops (post0 C K) i (fun a' w' => (ExtW w w' ∨ late.contains i = true) ∧ anyL late P ops (post0 C K) n (listed.setIfInBounds i true) a' w') a w
end
end Go.Vl

/- Rows of structs whose slices are their own: an element's slices are taken out as rows, and put back. -/
namespace Go.Vl
set_option linter.unusedVariables false
set_option linter.unusedSimpArgs false
open Go.RowKit

/-- Rows are told anew, and may be written: whatever they hold comes from rows that were there, or is new. -/
theorem SimM.remapE {C : Ctx} {s : St} {m : Nat → MV} {a : Act} {w w' : World} (h : SimM C s m a w) {bo : Option Nat} (hg : w.grownBy w' bo) (hbo : ∀ b, bo = some b → ∃ k, liveAt s.rows k ∧ (m k).S b)
    (env' : List (Nat × SV)) (rows' : List Row) (m' : Nat → MV) (hnbl : C.nb ≤ rows'.length) (hbor : ∀ i, i < C.nb → m' i = m i)
    (hsrc : ∀ j b, liveAt rows' j → (m' j).S b → (∃ k, liveAt s.rows k ∧ (m k).S b ∧ (C.nb ≤ j → C.nb ≤ k)) ∨ w.heap.size ≤ b)
    (hdist : ∀ i j b, liveAt rows' i → liveAt rows' j → (m' i).S b → (m' j).S b → i = j)
    (hrows : (∀ fr b, Gd C s.rows m w fr b → Gd C rows' m' w' fr b ∧ w'.heap[b]? = w.heap[b]?) → ∀ j q, rows'[j]? = some q → RowOK w' (Gd C rows' m' w') m' rows'.length (m' j) q)
    (henv : (∀ fr b, Gd C s.rows m w fr b → Gd C rows' m' w' fr b ∧ w'.heap[b]? = w.heap[b]?) → ∀ t, RS w' (Gd C rows' m' w') m' rows'.length (look env' t) (a.tmps.getD t undef)) :
    SimM C ⟨s.n, env', rows'⟩ m' a w' := by
  have hG : ∀ fr b, Gd C s.rows m w fr b → Gd C rows' m' w' fr b ∧ w'.heap[b]? = w.heap[b]? := by
    refine Gd.step (fun b => bo = some b) hg.size (fun k hk hn => hg.block k hk (fun e => hn e.symm)) (fun k hk => let ⟨i, h1, h2⟩ := hbo k hk; ⟨i, h1, h2⟩) (fun b hlt ⟨j, hl, hbk⟩ => ?_)
    rcases hsrc j b hl hbk with ⟨k, h1, h2, _⟩ | h1
    · exact ⟨k, h1, h2⟩
    · omega
  exact {
    defs := h.defs
    size := h.size
    os := hg.os.trans h.os
    tape := hg.tape.trans h.tape
    output := hg.output.trans h.output
    hsz := Nat.le_trans h.hsz hg.size
    old := fun k hk hn => by
      refine (hg.block k (by have := h.hsz; omega) (fun e => ?_)).trans (h.old k hk hn)
      obtain ⟨i, h1, h2⟩ := hbo k e.symm
      by_cases hi : i < C.nb
      · exact hn i hi (by rw [← h.bor i hi]; exact h2)
      · have := h.newb i k (by omega) h1 h2; omega
    bor := fun i hi => by rw [hbor i hi]; exact h.bor i hi
    nbl := hnbl
    newb := fun j b hj hl hbk => by
      rcases hsrc j b hl hbk with ⟨k, h1, h2, h3⟩ | h1
      · exact h.newb k b (h3 hj) h1 h2
      · have := h.hsz; omega
    dist := hdist
    rows := hrows hG
    env := henv hG }

theorem SimM.remap {C : Ctx} {s : St} {m : Nat → MV} {a : Act} {w w' : World} (h : SimM C s m a w) {bo : Option Nat} (hg : w.grownBy w' bo) (hbo : ∀ b, bo = some b → ∃ k, liveAt s.rows k ∧ (m k).S b)
    (rows' : List Row) (m' : Nat → MV) (hN : s.rows.length ≤ rows'.length) (hv : ∀ i, i < s.rows.length → (m' i).v = (m i).v) (hbor : ∀ i, i < C.nb → m' i = m i)
    (hsrc : ∀ j b, liveAt rows' j → (m' j).S b → (∃ k, liveAt s.rows k ∧ (m k).S b ∧ (C.nb ≤ j → C.nb ≤ k)) ∨ w.heap.size ≤ b)
    (hdist : ∀ i j b, liveAt rows' i → liveAt rows' j → (m' i).S b → (m' j).S b → i = j)
    (hrows : (∀ fr b, Gd C s.rows m w fr b → Gd C rows' m' w' fr b ∧ w'.heap[b]? = w.heap[b]?) → ∀ j q, rows'[j]? = some q → RowOK w' (Gd C rows' m' w') m' rows'.length (m' j) q) :
    SimM C ⟨s.n, s.env, rows'⟩ m' a w' :=
  h.remapE hg hbo s.env rows' m' (by have := h.nbl; omega) hbor hsrc hdist hrows (fun hG t => (h.env t).monoV hG hN hv)

theorem grown_refl (w : World) : w.grownBy w none := ⟨rfl, rfl, rfl, Nat.le_refl _, fun _ _ _ => rfl⟩

def okTake : PV → Bool
  | .sl _ _ _ => true
  | c => c.scal

def takePV (c : PV) : PV := match c with
  | .sl _ _ _ => .gone
  | c => c

def takeP : PV → PV
  | .agg cs => .agg (cs.map takePV)
  | c => takePV c

def takeSV : Nat → List PV → List SV
  | _, [] => []
  | N, .sl _ _ _ :: cs => .ref N :: takeSV (N + 1) cs
  | N, c :: cs => .pv true c :: takeSV N cs

def takeRows (Rf : Nat → TypeId) : Nat → List PV → List Row
  | _, [] => []
  | k, .sl nl e xs :: cs => .tree (Rf k) e nl none xs :: takeRows Rf (k + 1) cs
  | k, _ :: cs => takeRows Rf k cs

/-- The places of the slices among cells. -/
def takePos : Nat → List PV → List Nat
  | _, [] => []
  | j, .sl _ _ _ :: cs => j :: takePos (j + 1) cs
  | j, _ :: cs => takePos (j + 1) cs

theorem takePos_ge : ∀ (cs : List PV) (j q : Nat), q ∈ takePos j cs → j ≤ q
  | [], j, q, h => by simp [takePos] at h
  | c :: cs, j, q, h => by
    cases c with
    | sl nl e xs =>
      simp only [takePos, List.mem_cons] at h
      rcases h with rfl | h
      · exact Nat.le_refl _
      · have := takePos_ge cs (j + 1) q h; omega
    | _ => simp only [takePos] at h; have := takePos_ge cs (j + 1) q h; omega

theorem takePos_inj : ∀ (cs : List PV) (j k k' q : Nat), (takePos j cs)[k]? = some q → (takePos j cs)[k']? = some q → k = k'
  | [], j, k, k', q, h, _ => by simp [takePos] at h
  | c :: cs, j, k, k', q, h, h' => by
    cases c with
    | sl nl e xs =>
      simp only [takePos] at h h'
      cases k with
      | zero =>
        cases k' with
        | zero => rfl
        | succ k' =>
          simp only [List.getElem?_cons_zero, Option.some.injEq, List.getElem?_cons_succ] at h h'
          have := takePos_ge cs (j + 1) q (List.mem_of_getElem? h')
          omega
      | succ k =>
        cases k' with
        | zero =>
          simp only [List.getElem?_cons_zero, Option.some.injEq, List.getElem?_cons_succ] at h h'
          have := takePos_ge cs (j + 1) q (List.mem_of_getElem? h)
          omega
        | succ k' =>
          simp only [List.getElem?_cons_succ] at h h'
          rw [takePos_inj cs (j + 1) k k' q h h']
    | _ => simp only [takePos] at h h'; exact takePos_inj cs (j + 1) k k' q h h'

/-- What each new row is. -/
theorem takeRows_get (Rf : Nat → TypeId) : ∀ (cs : List PV) (j k0 k : Nat) (r : Row), (takeRows Rf k0 cs)[k]? = some r → ∃ q nl e xs, (takePos j cs)[k]? = some (j + q) ∧ cs[q]? = some (.sl nl e xs) ∧ r = .tree (Rf (k0 + k)) e nl none xs
  | [], j, k0, k, r, h => by simp [takeRows] at h
  | c :: cs, j, k0, k, r, h => by
    cases c with
    | sl nl e xs =>
      simp only [takeRows, takePos] at h ⊢
      cases k with
      | zero => simp only [List.getElem?_cons_zero, Option.some.injEq] at h; exact ⟨0, nl, e, xs, by simp, by simp, h.symm⟩
      | succ k =>
        simp only [List.getElem?_cons_succ] at h
        obtain ⟨q, nl', e', xs', h1, h2, h3⟩ := takeRows_get Rf cs (j + 1) (k0 + 1) k r h
        exact ⟨q + 1, nl', e', xs', by simp only [List.getElem?_cons_succ, h1]; congr 1; omega, by simpa using h2, by rw [h3]; congr 2; omega⟩
    | _ =>
      simp only [takeRows, takePos] at h ⊢
      obtain ⟨q, nl', e', xs', h1, h2, h3⟩ := takeRows_get Rf cs (j + 1) k0 k r h
      exact ⟨q + 1, nl', e', xs', by rw [h1]; congr 1; omega, by simpa using h2, h3⟩

theorem takeRows_len (Rf : Nat → TypeId) : ∀ (cs : List PV) (j k : Nat), (takeRows Rf k cs).length = (takePos j cs).length
  | [], j, k => rfl
  | c :: cs, j, k => by
    cases c with
    | sl nl e xs => simp only [takeRows, takePos, List.length_cons]; rw [takeRows_len Rf cs (j + 1) (k + 1)]
    | _ => simp only [takeRows, takePos]; exact takeRows_len Rf cs (j + 1) k

theorem takeSV_len : ∀ (cs : List PV) (N : Nat), (takeSV N cs).length = cs.length
  | [], _ => rfl
  | c :: cs, N => by cases c <;> simp [takeSV, takeSV_len cs]

/-- What each cell of the element is, once its slices are rows. -/
theorem takeSV_get : ∀ (cs : List PV) (j N q : Nat) (c : PV) (x : SV), cs[q]? = some c → (takeSV N cs)[q]? = some x → (x = .pv true c ∧ takePV c = c) ∨ ∃ k, (takePos j cs)[k]? = some (j + q) ∧ x = .ref (N + k)
  | [], j, N, q, c, x, h, _ => by simp at h
  | d :: cs, j, N, q, c, x, h, h' => by
    cases q with
    | zero =>
      simp only [List.getElem?_cons_zero, Option.some.injEq] at h
      subst h
      cases d with
      | sl nl e xs =>
        simp only [takeSV, List.getElem?_cons_zero, Option.some.injEq] at h'
        exact .inr ⟨0, by simp [takePos], h'.symm⟩
      | _ => simp only [takeSV, List.getElem?_cons_zero, Option.some.injEq] at h'; exact .inl ⟨h'.symm, rfl⟩
    | succ q =>
      simp only [List.getElem?_cons_succ] at h
      cases d with
      | sl nl e xs =>
        simp only [takeSV, List.getElem?_cons_succ] at h'
        rcases takeSV_get cs (j + 1) (N + 1) q c x h h' with h1 | ⟨k, h1, h2⟩
        · exact .inl h1
        · exact .inr ⟨k + 1, by simp only [takePos, List.getElem?_cons_succ, h1]; congr 1; omega, by rw [h2]; congr 1; omega⟩
      | _ =>
        simp only [takeSV, List.getElem?_cons_succ] at h'
        rcases takeSV_get cs (j + 1) N q c x h h' with h1 | ⟨k, h1, h2⟩
        · exact .inl h1
        · exact .inr ⟨k, by simp only [takePos, h1]; congr 1; omega, h2⟩

theorem takeP_cells {e : Nat} {p : PV} (h : p.fits e) : (takeP p).cells = p.cells.map takePV := by
  cases p with
  | agg cs => rfl
  | sl nl e xs => rfl
  | _ => rfl

theorem takePV_agg (c : PV) (h : c.isAgg = false) : (takePV c).isAgg = false := by cases c <;> simp_all [takePV, PV.isAgg]

theorem takeP_fits {e : Nat} {p : PV} (h : p.fits e) : (takeP p).fits e := by
  refine ⟨by rw [takeP_cells h]; simpa using h.1, fun j c hc => ?_⟩
  rw [takeP_cells h] at hc
  simp only [List.getElem?_map, Option.map_eq_some_iff] at hc
  obtain ⟨c', hc', rfl⟩ := hc
  exact takePV_agg c' (h.2 j c' hc')

section
variable {P : Program} {C : Ctx} {Q : Go.Exit → St → Prop} {s : St} {ops : Array Oper} {rest : List Oper} {t : Nat} {ty : TypeId} {pos : String} {af : Array Edge}

/-- The cells of an element of a row whose slices are its own. -/
theorem SimM.elemT {m : Nat → MV} {a : Act} {w : World} (hs : SimM C s m a w) {x : Operand} {id R e i o : Nat} {nl : Option Bool} {xs : List PV} (hx : getO s.env x = .ptr id e i o) (hrow : s.rows[id]? = some (.tree R e nl none xs)) {p : PV} (hget : xs[i]? = some p) :
    ∃ (b : Nat) (vals : List Value) (Sf : Nat → Nat → Prop), a.eval x = .pointer (some ⟨b, i * e + o, none⟩) ∧ blk (m id).v = some b ∧ w.ownsRow 0 R e (m id).v xs.length vals ∧ p.fits e ∧
      (∀ q, q < xs.length * e → w.cell? ⟨b, q, none⟩ = vals[q]?) ∧
      (∀ (k : Nat) (y : PV) (j : Nat) (c : PV) (u : Value), xs[k]? = some y → y.cells[j]? = some c → vals[k * e + j]? = some u → TP w c u (Sf (k * e + j))) ∧
      (∀ q q' b, Sf q b → Sf q' b → q = q') ∧ (∀ q b, Sf q b → blk (m id).v ≠ some b) ∧ (∀ q b, xs.length * e ≤ q → ¬ Sf q b) ∧ (∀ b, (m id).S b ↔ blk (m id).v = some b ∨ ∃ q, Sf q b) ∧
      (nl = some true → (m id).v = .slice none 0 0) ∧ (nl = some false → (m id).v ≠ .slice none 0 0) ∧ (∀ (k : Nat) (y : PV), xs[k]? = some y → y.fits e) ∧
      ∃ (cap : Nat) (cur : Array Value), (m id).v = .slice (some ⟨b, 0, none⟩) xs.length cap ∧ w.heap[b]? = some (.cells cur R (0, 0)) ∧ xs.length ≤ cap ∧ cap ≤ maxLen ∧ cur.size = cap * e ∧ cur.toList.take (xs.length * e) = vals := by
  obtain ⟨b, hv, hb, hid⟩ := hs.ptr hx
  have hR := hs.rows id _ hrow
  have hi : i < xs.length := (List.getElem?_eq_some_iff.1 hget).1
  generalize hmv : m id = v at *
  cases hR with
  | tree mv t' e nl h xs vals Sf hown h1 h2 hw hr hd hn hz hS hkn =>
    rcases hown.2 with ⟨e0, hn0⟩ | ⟨g, cap, cur, e0, h00, hheap, hle, hmx, hcs, htk⟩
    · omega
    · have hgb : b = g := by rw [e0] at hb; simpa [blk] using hb.symm
      subst hgb
      refine ⟨b, vals, Sf, hv, hb, hown, hw i p hget, fun q hq => ?_, fun k y j c u hy hc hu => (hr k y j c u hy hc hu).tp, hd, hn, hz, hS, h1, h2, hw, cap, cur, e0, hheap, hle, hmx, hcs, htk⟩
      rw [cell_of_row w b _ cur R (0, 0) hheap, ← htk, List.getElem?_take, if_pos hq]
      simp

/-- An element's slices are taken out of a row. -/
theorem SimM.takeRow {m : Nat → MV} {a : Act} {w : World} (hs : SimM C s m a w) {id R e i : Nat} {nl : Option Bool} {xs : List PV} (hnb : C.nb ≤ id) (hrow : s.rows[id]? = some (.tree R e nl none xs)) {p : PV} (hget : xs[i]? = some p) (hok : p.cells.all okTake = true)
    {vals : List Value} {Sf : Nat → Nat → Prop} (hown : w.ownsRow 0 R e (m id).v xs.length vals)
    (hr : ∀ (k : Nat) (y : PV) (j : Nat) (c : PV) (u : Value), xs[k]? = some y → y.cells[j]? = some c → vals[k * e + j]? = some u → TP w c u (Sf (k * e + j)))
    (hd : ∀ q q' b, Sf q b → Sf q' b → q = q') (hn : ∀ q b, Sf q b → blk (m id).v ≠ some b) (hz : ∀ q b, xs.length * e ≤ q → ¬ Sf q b) (hS : ∀ b, (m id).S b ↔ blk (m id).v = some b ∨ ∃ q, Sf q b)
    (h1 : nl = some true → (m id).v = .slice none 0 0) (h2 : nl = some false → (m id).v ≠ .slice none 0 0) (hw : ∀ (k : Nat) (y : PV), xs[k]? = some y → y.fits e) :
    ∃ (Rf : Nat → TypeId) (m' : Nat → MV), SimM C ⟨s.n, s.env, s.rows.set id (.tree R e nl none (xs.set i (takeP p))) ++ takeRows Rf 0 p.cells⟩ m' a w ∧
      (∀ fr b, Gd C s.rows m w fr b → Gd C (s.rows.set id (.tree R e nl none (xs.set i (takeP p))) ++ takeRows Rf 0 p.cells) m' w fr b) ∧
      (∀ j, j < s.rows.length → (m' j).v = (m j).v) ∧
      (∀ (k j : Nat), (takePos 0 p.cells)[k]? = some j → (m' (s.rows.length + k)).v = vals.getD (i * e + j) undef ∧ s.rows.length + k < (s.rows.set id (.tree R e nl none (xs.set i (takeP p))) ++ takeRows Rf 0 p.cells).length) := by
  have hid : id < s.rows.length := (List.getElem?_eq_some_iff.1 hrow).1
  have hlid : liveAt s.rows id := ⟨_, hrow, rfl⟩
  have hi : i < xs.length := (List.getElem?_eq_some_iff.1 hget).1
  have hf := hw i p hget
  let ps := takePos 0 p.cells
  have hpos : ∀ (k j : Nat), ps[k]? = some j → ∃ nl' e' ys, p.cells[j]? = some (.sl nl' e' ys) ∧ ∃ Rt, RowOK w (fun _ _ => False) (fun _ => default) 0 ⟨vals.getD (i * e + j) undef, Sf (i * e + j)⟩ (.tree Rt e' nl' none ys) := by
    intro k j hk
    have hlen := takeRows_len (fun _ => 0) p.cells 0 0
    have hk1 : k < (takeRows (fun _ => 0) 0 p.cells).length := by rw [hlen]; exact (List.getElem?_eq_some_iff.1 hk).1
    obtain ⟨q, nl', e', ys, g1, g2, _⟩ := takeRows_get (fun _ => 0) p.cells 0 0 k _ (List.getElem?_eq_getElem hk1)
    have hjq : j = q := by
      have g1' : ps[k]? = some (0 + q) := g1
      rw [hk] at g1'
      have := Option.some.inj g1'
      omega
    subst hjq
    have hj : j < e := by rw [← hf.1]; exact (List.getElem?_eq_some_iff.1 g2).1
    have hlt : i * e + j < vals.length := by
      rw [hown.1]
      have := Nat.mul_le_mul_right e (show i + 1 ≤ xs.length by omega)
      rw [Nat.add_mul] at this
      omega
    have hu : vals[i * e + j]? = some (vals.getD (i * e + j) undef) := by rw [List.getD_eq_getElem?_getD, List.getElem?_eq_getElem hlt]; rfl
    have hT := hr i p j _ _ hget g2 hu
    refine ⟨nl', e', ys, g2, ?_⟩
    generalize vals.getD (i * e + j) undef = u at *
    generalize Sf (i * e + j) = S1 at *
    cases hT with
    | scal _ _ _ hsc => simp [PV.scal] at hsc
    | sl tc _ _ _ _ vals2 Sf2 _ hown2 g1 g2 gw gr gd gn gz gS =>
      exact ⟨tc, .tree ⟨u, S1⟩ tc e' nl' none ys vals2 Sf2 hown2 g1 g2 gw (fun k y j c u hy hc hu => .inl (gr k y j c u hy hc hu)) gd gn gz gS (fun _ _ h => by cases h)⟩
  obtain ⟨Rf, hRf⟩ : ∃ Rf : Nat → TypeId, ∀ (k j : Nat) (nl' : Option Bool) (e' : Nat) (ys : List PV), ps[k]? = some j → p.cells[j]? = some (.sl nl' e' ys) → RowOK w (fun _ _ => False) (fun _ => default) 0 ⟨vals.getD (i * e + j) undef, Sf (i * e + j)⟩ (.tree (Rf k) e' nl' none ys) := by
    refine Classical.axiomOfChoice (r := fun k Rt => ∀ (j : Nat) (nl' : Option Bool) (e' : Nat) (ys : List PV), ps[k]? = some j → p.cells[j]? = some (.sl nl' e' ys) → RowOK w (fun _ _ => False) (fun _ => default) 0 ⟨vals.getD (i * e + j) undef, Sf (i * e + j)⟩ (.tree Rt e' nl' none ys)) (fun k => ?_)
    cases hk : ps[k]? with
    | none => exact ⟨0, fun j nl' e' ys h => by cases h⟩
    | some j =>
      obtain ⟨nl1, e1, ys1, h3, Rt, h4⟩ := hpos k j hk
      refine ⟨Rt, fun j' nl' e' ys h5 h6 => ?_⟩
      cases h5
      rw [h3] at h6
      have h6 := Option.some.inj h6
      injection h6 with q1 q2 q3
      rw [← q1, ← q2, ← q3]
      exact h4
  let Sf' : Nat → Nat → Prop := fun q b => Sf q b ∧ ¬ ∃ k j : Nat, ps[k]? = some j ∧ q = i * e + j
  let S' : Nat → Prop := fun b => blk (m id).v = some b ∨ ∃ q, Sf' q b
  let N := s.rows.length
  let pj : Nat → Nat := fun k => (ps[k]?).getD 0
  let m' : Nat → MV := fun x => if x < N then (if x = id then ⟨(m id).v, S'⟩ else m x) else ⟨vals.getD (i * e + pj (x - N)) undef, Sf (i * e + pj (x - N))⟩
  let rows' := s.rows.set id (.tree R e nl none (xs.set i (takeP p))) ++ takeRows Rf 0 p.cells
  have hlen' : rows'.length = N + (takeRows Rf 0 p.cells).length := by simp [rows', N]
  have hrl : (takeRows Rf 0 p.cells).length = ps.length := takeRows_len Rf p.cells 0 0
  have hmI : m' id = ⟨(m id).v, S'⟩ := by simp [m', N, hid]
  have hmO : ∀ j, j < N → j ≠ id → m' j = m j := fun j h1 h2 => by show (if j < N then (if j = id then _ else _) else _) = _; rw [if_pos h1, if_neg h2]
  have hmN : ∀ k, m' (N + k) = ⟨vals.getD (i * e + pj k) undef, Sf (i * e + pj k)⟩ := fun k => by show (if N + k < N then (if N + k = id then _ else _) else _) = _; rw [if_neg (by omega), Nat.add_sub_cancel_left]
  have hmv : ∀ j, j < N → (m' j).v = (m j).v := fun j hj => by
    by_cases e : j = id
    · subst e; rw [hmI]
    · rw [hmO j hj e]
  have hlive : ∀ j, liveAt rows' j → (j < N ∧ liveAt s.rows j) ∨ ∃ k q, j = N + k ∧ ps[k]? = some q := by
    intro j ⟨r, hq, hv⟩
    simp only [rows'] at hq
    rw [List.getElem?_append] at hq
    split at hq
    · rename_i hlt
      exact .inl ⟨by simpa using hlt, liveAt_set ⟨r, hq, hv⟩ hlid⟩
    · rename_i hge
      simp only [List.length_set] at hge hq
      have hk : j - s.rows.length < ps.length := by rw [← hrl]; exact (List.getElem?_eq_some_iff.1 hq).1
      exact .inr ⟨j - N, ps[j - N], by omega, List.getElem?_eq_getElem hk⟩
  have hSfS : ∀ q b, Sf q b → (m id).S b := fun q b h => (hS b).2 (.inr ⟨q, h⟩)
  have hsrc : ∀ j b, liveAt rows' j → (m' j).S b → ∃ k, liveAt s.rows k ∧ (m k).S b ∧ (C.nb ≤ j → C.nb ≤ k) := by
    intro j b hl hb
    rcases hlive j hl with ⟨g1, g2⟩ | ⟨k, q, rfl, hq⟩
    · by_cases e : j = id
      · subst e
        rw [hmI] at hb
        exact ⟨j, g2, hb.elim (fun h => (hS b).2 (.inl h)) (fun ⟨q, h⟩ => hSfS q b h.1), fun h => h⟩
      · rw [hmO j g1 e] at hb
        exact ⟨j, g2, hb, fun h => h⟩
    · rw [hmN] at hb
      exact ⟨id, hlid, hSfS _ b hb, fun _ => hnb⟩
  have hpjk : ∀ (k q : Nat), ps[k]? = some q → pj k = q := fun k q h => by simp [pj, h]
  refine ⟨Rf, m', hs.remap (grown_refl w) (fun b h => by cases h) rows' m' (by rw [hlen']; exact Nat.le_add_right _ _) hmv (fun j hj => hmO j (by omega) (by omega)) (fun j b hl hb => .inl (hsrc j b hl hb)) ?_ ?_, ?_, hmv, ?_⟩
  · intro j1 j2 b g1 g2 hb1 hb2
    have key : ∀ j k q, j < N → liveAt s.rows j → ps[k]? = some q → (m' j).S b → (m' (N + k)).S b → False := by
      intro j k q g1 g2 hq hc1 hc2
      rw [hmN, hpjk k q hq] at hc2
      by_cases e1 : j = id
      · rw [e1, hmI] at hc1
        rcases hc1 with h | ⟨q', h, hno⟩
        · exact hn _ b hc2 h
        · exact hno ⟨k, q, hq, hd _ _ b h hc2⟩
      · rw [hmO j g1 e1] at hc1
        exact e1 (hs.dist j id b g2 hlid hc1 (hSfS _ b hc2))
    rcases hlive j1 g1 with ⟨a1, a2⟩ | ⟨k1, q1, rfl, hq1⟩ <;> rcases hlive j2 g2 with ⟨c1, c2⟩ | ⟨k2, q2, rfl, hq2⟩
    · have hX : ∀ j, j < N → (m' j).S b → (m j).S b := fun j hj h => by
        by_cases e1 : j = id
        · subst e1; rw [hmI] at h; exact h.elim (fun h => (hS b).2 (.inl h)) (fun ⟨q, h⟩ => hSfS q b h.1)
        · rwa [hmO j hj e1] at h
      exact hs.dist j1 j2 b a2 c2 (hX j1 a1 hb1) (hX j2 c1 hb2)
    · exact (key j1 k2 q2 a1 a2 hq2 hb1 hb2).elim
    · exact (key j2 k1 q1 c1 c2 hq1 hb2 hb1).elim
    · rw [hmN, hpjk _ _ hq1] at hb1
      rw [hmN, hpjk _ _ hq2] at hb2
      have h3 := hd _ _ b hb1 hb2
      have h4 : q1 = q2 := by omega
      subst h4
      rw [takePos_inj p.cells 0 k1 k2 q1 hq1 hq2]
  · intro hG j q hq
    change rows'[j]? = some q at hq
    simp only [rows'] at hq
    rw [List.getElem?_append] at hq
    split at hq
    · rename_i hlt
      rw [List.length_set] at hlt
      rw [List.getElem?_set] at hq
      split at hq
      · rename_i e0
        subst e0
        cases hq
        rw [hmI]
        refine .tree ⟨(m id).v, S'⟩ R e nl none (xs.set i (takeP p)) vals Sf' (by simpa using hown) h1 h2 (fun k y hy => ?_) (fun k y j c u hy hc hu => .inl ?_) (fun q q' b h3 h4 => hd q q' b h3.1 h4.1) (fun q b h3 => hn q b h3.1) (fun q b hq h3 => hz q b (by simpa using hq) h3.1) (fun b => Iff.rfl) (fun _ _ h => by cases h)
        · rw [List.getElem?_set] at hy
          split at hy
          · cases hy; exact takeP_fits hf
          · exact hw k y hy
        · rw [List.getElem?_set] at hy
          split at hy
          · rename_i e1
            subst e1
            cases hy
            rw [takeP_cells hf] at hc
            simp only [List.getElem?_map, Option.map_eq_some_iff] at hc
            obtain ⟨c', hc', rfl⟩ := hc
            have hT := hr i p j c' u hget hc' hu
            by_cases hsl : ∃ k : Nat, ps[k]? = some j
            · obtain ⟨k, hk⟩ := hsl
              obtain ⟨nl', e', ys, g2, _⟩ := hpos k j hk
              rw [hc'] at g2
              cases g2
              exact .gone u _ hT.oneCell (fun b hb => hb.2 ⟨k, j, hk, rfl⟩)
            · have hcc : takePV c' = c' := by
                have hl9 := takeSV_len p.cells 0
                have hj9 : j < (takeSV 0 p.cells).length := by rw [hl9]; exact (List.getElem?_eq_some_iff.1 hc').1
                rcases takeSV_get p.cells 0 0 j c' _ hc' (List.getElem?_eq_getElem hj9) with h3 | ⟨k, h3, _⟩
                · exact h3.2
                · exact (hsl ⟨k, by have h3' : ps[k]? = some (0 + j) := h3; rw [Nat.zero_add] at h3'; exact h3'⟩).elim
              rw [hcc]
              have hSe : Sf' (i * e + j) = Sf (i * e + j) := by
                funext b
                exact propext ⟨fun h => h.1, fun h => ⟨h, fun ⟨k, j', h3, h4⟩ => hsl ⟨k, by rw [h3]; congr 1; omega⟩⟩⟩
              rw [hSe]
              exact hT
          · rename_i e1
            have hT := hr k y j c u hy hc hu
            have hjj : j < e := by rw [← (hw k y hy).1]; exact (List.getElem?_eq_some_iff.1 hc).1
            have hSe : Sf' (k * e + j) = Sf (k * e + j) := by
              funext b
              refine propext ⟨fun h => h.1, fun h => ⟨h, fun ⟨k', j', h3, h4⟩ => ?_⟩⟩
              obtain ⟨nl', e', ys, g2, _⟩ := hpos k' j' h3
              have hj' : j' < e := by rw [← hf.1]; exact (List.getElem?_eq_some_iff.1 g2).1
              have e2 : (k * e + j) / e = (i * e + j') / e := by rw [h4]
              rw [Nat.mul_comm k e, Nat.mul_comm i e, Nat.mul_add_div (by omega), Nat.mul_add_div (by omega), Nat.div_eq_of_lt hjj, Nat.div_eq_of_lt hj'] at e2
              omega
            rw [hSe]
            exact hT
      · rename_i e0
        rw [hmO j hlt (Ne.symm e0)]
        exact (hs.rows j q hq).monoV hG (by rw [hlen']; omega) hmv (fun _ _ _ => rfl)
    · rename_i hge
      simp only [List.length_set] at hge hq
      obtain ⟨k, rfl⟩ : ∃ k, j = N + k := ⟨j - N, by have : N ≤ j := by omega
                                                     omega⟩
      have hk0 : N + k - s.rows.length = k := Nat.add_sub_cancel_left ..
      rw [hk0] at hq
      obtain ⟨q', nl', e', ys, g1, g2, g3⟩ := takeRows_get Rf p.cells 0 0 k q hq
      have g1' : ps[k]? = some q' := by have : ps[k]? = some (0 + q') := g1; rw [Nat.zero_add] at this; exact this
      subst g3
      rw [hmN, hpjk _ _ g1', Nat.zero_add]
      have hx := hRf k q' nl' e' ys g1' g2
      generalize (⟨vals.getD (i * e + q') undef, Sf (i * e + q')⟩ : MV) = mv at hx ⊢
      cases hx with
      | tree _ _ _ _ _ _ vals2 Sf2 hown2 k1 k2 kw kr kd kn kz kS kk =>
        exact .tree _ _ _ _ _ _ vals2 Sf2 hown2 k1 k2 kw kr kd kn kz kS kk
  · intro fr b ⟨g1, g2, g3⟩
    refine ⟨g1, fun ⟨j, hj, hb⟩ => ?_, g3⟩
    obtain ⟨k, h4, h5, _⟩ := hsrc j b hj hb
    exact g2 ⟨k, h4, h5⟩
  · intro k j hk
    refine ⟨?_, ?_⟩
    · rw [show s.rows.length + k = N + k from rfl, hmN, hpjk k j hk]
    · show N + k < rows'.length
      rw [hlen', hrl]
      have h9 : k < ps.length := (List.getElem?_eq_some_iff.1 hk).1
      omega

end
end Go.Vl

/- An element's slices are put back into a row whose slices are its own; literals of such elements, and 'append'. -/
namespace Go.Vl
set_option linter.unusedVariables false
set_option linter.unusedSimpArgs false
open Go.RowKit

def deadAll (ks : List Nat) (rows : List Row) : List Row := ks.foldl (fun r k => r.set k .dead) rows

theorem deadAll_len : ∀ (ks : List Nat) (rows : List Row), (deadAll ks rows).length = rows.length
  | [], rows => rfl
  | k :: ks, rows => by
    show (deadAll ks (rows.set k .dead)).length = _
    rw [deadAll_len ks]; simp

theorem deadAll_get : ∀ (ks : List Nat) (rows : List Row) (j : Nat) (q : Row), (deadAll ks rows)[j]? = some q → (j ∈ ks ∧ q = .dead) ∨ (j ∉ ks ∧ rows[j]? = some q)
  | [], rows, j, q, h => .inr ⟨by simp, h⟩
  | k :: ks, rows, j, q, h => by
    rcases deadAll_get ks (rows.set k .dead) j q h with ⟨h1, h2⟩ | ⟨h1, h2⟩
    · exact .inl ⟨List.mem_cons_of_mem _ h1, h2⟩
    · rw [List.getElem?_set] at h2
      split at h2
      · rename_i e
        subst e
        split at h2
        · cases h2; exact .inl ⟨by simp, rfl⟩
        · cases h2
      · rename_i e
        exact .inr ⟨by simp only [List.mem_cons, not_or]; exact ⟨Ne.symm e, h1⟩, h2⟩

def refsOf : List SV → List Nat
  | [] => []
  | .ref k :: r => k :: refsOf r
  | _ :: r => refsOf r

theorem mem_refsOf : ∀ {ys : List SV} {j k : Nat}, ys[j]? = some (.ref k) → k ∈ refsOf ys
  | [], j, k, h => by simp at h
  | y :: ys, 0, k, h => by simp at h; subst h; simp [refsOf]
  | y :: ys, j + 1, k, h => by
    simp only [List.getElem?_cons_succ] at h
    have := mem_refsOf h
    cases y <;> simp [refsOf, this]

theorem refsOf_inj : ∀ {ys : List SV} {j j' k : Nat}, (refsOf ys).Nodup → ys[j]? = some (.ref k) → ys[j']? = some (.ref k) → j = j'
  | [], j, j', k, _, h, _ => by simp at h
  | y :: ys, 0, 0, k, _, _, _ => rfl
  | y :: ys, 0, j' + 1, k, hn, h, h' => by
    simp at h h'; subst h
    simp only [refsOf, List.nodup_cons] at hn
    exact (hn.1 (mem_refsOf h')).elim
  | y :: ys, j + 1, 0, k, hn, h, h' => by
    simp at h h'; subst h'
    simp only [refsOf, List.nodup_cons] at hn
    exact (hn.1 (mem_refsOf h)).elim
  | y :: ys, j + 1, j' + 1, k, hn, h, h' => by
    simp only [List.getElem?_cons_succ] at h h'
    have : (refsOf ys).Nodup := by cases y <;> simp_all [refsOf, List.nodup_cons]
    rw [refsOf_inj this h h']

/-- What goes into a cell. -/
def pvT (rows : List Row) : SV → Option PV
  | .pv _ c => bif c.scal then some c else match c with
    | .sl (some true) e [] => some (.sl (some true) e [])
    | _ => none
  | .ref k => match rows[k]? with
    | some (.tree _ e nl none xs) => some (.sl nl e xs)
    | _ => none
  | _ => none

def pvTs (rows : List Row) : List SV → Option (List PV)
  | [] => some []
  | y :: ys => match pvT rows y, pvTs rows ys with
    | some p, some ps => some (p :: ps)
    | _, _ => none

theorem pvTs_get {rows : List Row} : ∀ {ys : List SV} {ps : List PV}, pvTs rows ys = some ps → ys.length = ps.length ∧ ∀ (j : Nat) (y : SV) (p : PV), ys[j]? = some y → ps[j]? = some p → pvT rows y = some p
  | [], ps, h => by simp [pvTs] at h; subst h; exact ⟨rfl, fun j y p h => by simp at h⟩
  | y :: ys, ps, h => by
    simp only [pvTs] at h
    split at h
    · rename_i p ps' h1 h2
      cases h
      obtain ⟨g1, g2⟩ := pvTs_get h2
      refine ⟨by simp [g1], fun j y' p' h3 h4 => ?_⟩
      cases j with
      | zero => simp at h3 h4; subst h3; subst h4; exact h1
      | succ j => simp only [List.getElem?_cons_succ] at h3 h4; exact g2 j y' p' h3 h4
    · cases h

/-- The blocks of a cell's own. -/
def sOf (m : Nat → MV) (ys : List SV) (j b : Nat) : Prop := ∃ k, ys[j]? = some (.ref k) ∧ (m k).S b

section
variable {P : Program} {C : Ctx} {Q : Go.Exit → St → Prop} {s : St} {ops : Array Oper} {rest : List Oper} {t : Nat} {ty : TypeId} {pos : String} {af : Array Edge}

theorem SimM.putT {m : Nat → MV} {a : Act} {w : World} (hs : SimM C s m a w) {x : Operand} {ys : List SV} {ps : List PV} (hy : Vl.cellsG (getO s.env x) = some ys) (hok : okG s.rows (getO s.env x) = true) (hps : pvTs s.rows ys = some ps) :
    (∀ (j : Nat) (c : PV) (u : Value), ps[j]? = some c → (a.eval x).cells[j]? = some u → TP w c u (sOf m ys j)) ∧ (∀ (j k : Nat), ys[j]? = some (.ref k) → liveAt s.rows k) := by
  obtain ⟨g1, g2, g3⟩ := hs.cellsG hy hok
  obtain ⟨q1, q2⟩ := pvTs_get hps
  refine ⟨fun j c u hc hu => ?_, fun j k hk => ?_⟩
  · have hj : j < ys.length := by rw [q1]; exact (List.getElem?_eq_some_iff.1 hc).1
    have hyj := List.getElem?_eq_getElem hj
    have hp := q2 j _ c hyj hc
    have hr := g2 j _ u hyj hu
    have h1 := g3 j u hu
    generalize ys[j] = y at *
    cases y with
    | pv f p =>
      simp only [pvT] at hp
      cases hsc : p.scal with
      | false =>
        rw [hsc] at hp
        simp only [cond_false] at hp
        split at hp
        · rename_i e
          cases hp
          have hq := hr.pv_inv
          cases hq with
          | nilsl => exact .sl 0 e (some true) [] _ [] (fun _ _ => False) (sOf m ys j) (World.ownsRow_nil w 0 0 e) (fun _ => rfl) (fun h => by cases h) (fun i x hx => by simp at hx) (fun i x j c u hx => by simp at hx) (fun _ _ _ h => h.elim) (fun _ _ h => h.elim) (fun _ _ _ h => h) (fun b => ⟨fun ⟨k, h, _⟩ => (by rw [hyj] at h; cases h), fun h => h.elim (fun h => (by simp [blk] at h)) (fun ⟨_, h⟩ => h.elim)⟩)
          | sl nl e xs a len cap f h => exact (h rfl).elim
        · cases hp
      | true =>
        rw [hsc] at hp
        cases hp
        exact .scal _ _ _ hsc (hr.pv_inv.scal_any hsc) (fun b ⟨k, h, _⟩ => by rw [hyj] at h; cases h)
    | ref k =>
      simp only [pvT] at hp
      split at hp
      · rename_i R e nl xs hrow
        cases hp
        have hT := TP.of_tree (hs.rows k _ hrow)
        have hSe : sOf m ys j = (m k).S := by
          funext b
          refine propext ⟨fun ⟨k', h, hb⟩ => ?_, fun hb => ⟨k, hyj, hb⟩⟩
          rw [hyj] at h; cases h; exact hb
        rw [hSe]
        cases hr with
        | ref _ _ => exact hT
      · cases hp
    | _ => cases hp
  · have hj : j < ps.length := by rw [← q1]; exact (List.getElem?_eq_some_iff.1 hk).1
    have hp := q2 j _ _ hk (List.getElem?_eq_getElem hj)
    simp only [pvT] at hp
    split at hp
    · rename_i R e nl xs hrow; exact ⟨_, hrow, rfl⟩
    · cases hp

/-- An element goes into a place of a row whose slices are its own: its slices' rows go with it. -/
theorem vo_put {x y : Operand} {T id R e i k0 : Nat} {nl : Option Bool} {xs : List PV} {ys : List SV} {ps : List PV} {p : PV} {inf : TypeInfo} (hx : getO s.env x = .ptr id e i 0) (hrow : s.rows[id]? = some (.tree R e nl none xs))
    (hy : cellsG (getO s.env y) = some ys) (hok : okG s.rows (getO s.env y) = true) (hps : pvTs s.rows ys = some ps) (hpc : p.cells = ps) (hfp : fitsB e p = true)
    (hC : C.nb = k0) (hk : (id :: refsOf ys).all (fun k => Nat.ble k0 k) = true) (hnd : (id :: refsOf ys).Nodup) (hinf : P.info? T = some inf) (hsz : inf.size = e) (hi : i < xs.length)
    (next : VO P C ops rest Q ⟨s.n, s.env, (deadAll (refsOf ys) s.rows).set id (.tree R e nl none (xs.set i p))⟩) :
    VO P C ops (⟨none, .store T x y, ty, pos, af, none⟩ :: rest) Q s := by
  refine vo_unit (s1 := ⟨s.n, s.env, (deadAll (refsOf ys) s.rows).set id (.tree R e nl none (xs.set i p))⟩) (fun m a w hs => ?_) next
  obtain ⟨b, vals, Sf, hv, hb, hown, hf, hcell, hr, hd, hn, hz, hS, h1, h2, hw, cap, cur, hmv, hheap, hcap, hmx, hcs, htk⟩ := hs.elemT hx hrow (List.getElem?_eq_getElem hi)
  obtain ⟨hvl, _, hone1⟩ := hs.cellsG hy hok
  obtain ⟨hT, hlv⟩ := hs.putT hy hok hps
  obtain ⟨hyl, _⟩ := pvTs_get hps
  have hfp := fits_of hfp
  have hple : ps.length = e := by rw [← hpc]; exact hfp.1
  have hyse : ys.length = e := by omega
  have hid : id < s.rows.length := (List.getElem?_eq_some_iff.1 hrow).1
  have hlid : liveAt s.rows id := ⟨_, hrow, rfl⟩
  rw [List.all_eq_true] at hk
  have hnbk : ∀ k, k ∈ id :: refsOf ys → C.nb ≤ k := fun k h => by rw [hC]; exact Nat.le_of_ble_eq_true (hk k h)
  have hnb : C.nb ≤ id := hnbk id (by simp)
  rw [List.nodup_cons] at hnd
  obtain ⟨hidk, hnd⟩ := hnd
  have hle : i * e + e ≤ xs.length * e := by
    have := Nat.mul_le_mul_right e (show i + 1 ≤ xs.length by omega)
    rw [Nat.add_mul] at this
    omega
  have hle2 : xs.length * e ≤ cap * e := Nat.mul_le_mul_right e hcap
  have hvals : vals.length = xs.length * e := hown.1
  have hone : ∀ u ∈ (a.eval y).cells.toList, u.oneCell' = true := by
    intro u hu
    obtain ⟨j, hj⟩ := List.getElem?_of_mem hu
    exact hone1 j u (by simpa using hj)
  have hysv : (a.eval y).cells.size = e := by omega
  generalize hvs : (a.eval y).cells = vs at *
  have hrun := run_storeCells_at P b (i * e) R vs.toList 0 cur w hheap (by simp; omega) hone
  simp only [Nat.add_zero, Array.length_toList, hysv] at hrun
  let cur' := (cur.toList.take (i * e) ++ vs.toList ++ cur.toList.drop (i * e + e)).toArray
  let vals' := vals.take (i * e) ++ vs.toList ++ vals.drop (i * e + e)
  have hvl' : vals'.length = xs.length * e := by
    simp only [vals', List.length_append, List.length_take, List.length_drop, Array.length_toList, hysv, hvals]
    omega
  have hvget : ∀ j, vals'[j]? = if j < i * e then vals[j]? else if j < i * e + e then vs[j - i * e]? else vals[j]? := by
    intro j
    simp only [vals']
    rw [List.getElem?_append, List.getElem?_append]
    simp only [List.length_append, List.length_take, Array.length_toList, hysv]
    have e1 : min (i * e) vals.length = i * e := by omega
    rw [e1]
    split
    · split
      · rw [List.getElem?_take, if_pos (by assumption)]
      · simp
    · rw [if_neg (by omega), List.getElem?_drop, show i * e + e + (j - (i * e + e)) = j by omega]
  have hsep : ∀ k j, k ≠ i → j < e → k * e + j < i * e ∨ i * e + e ≤ k * e + j := by
    intro k j h3 h4
    rcases Nat.lt_or_ge k i with h5 | h5
    · left
      have := Nat.mul_le_mul_right e (show k + 1 ≤ i by omega)
      rw [Nat.add_mul] at this
      omega
    · right
      have := Nat.mul_le_mul_right e (show i + 1 ≤ k by omega)
      rw [Nat.add_mul] at this
      omega
  let Sf' : Nat → Nat → Prop := fun q b' => if i * e ≤ q ∧ q < i * e + e then sOf m ys (q - i * e) b' else Sf q b'
  let S' : Nat → Prop := fun b' => blk (m id).v = some b' ∨ ∃ q, Sf' q b'
  let m' : Nat → MV := updM m id ⟨(m id).v, S'⟩
  let rows' := (deadAll (refsOf ys) s.rows).set id (.tree R e nl none (xs.set i p))
  have hlen' : rows'.length = s.rows.length := by simp [rows', deadAll_len]
  have hmI : m' id = ⟨(m id).v, S'⟩ := updM_same ..
  have hmO : ∀ j, j ≠ id → m' j = m j := fun j h => updM_ne _ _ h
  have hmvv : ∀ j, (m' j).v = (m j).v := fun j => by
    by_cases e : j = id
    · subst e; rw [hmI]
    · rw [hmO j e]
  have hrk : ∀ j b', sOf m ys j b' → ∃ k, ys[j]? = some (.ref k) ∧ k ∈ refsOf ys ∧ liveAt s.rows k ∧ (m k).S b' := fun j b' ⟨k, h3, h4⟩ => ⟨k, h3, mem_refsOf h3, hlv j k h3, h4⟩
  have hSfS : ∀ q b', Sf q b' → (m id).S b' := fun q b' h => (hS b').2 (.inr ⟨q, h⟩)
  have hblkS : ∀ b', blk (m id).v = some b' → (m id).S b' := fun b' h => (hS b').2 (.inl h)
  have hno : ∀ k b', k ∈ refsOf ys → liveAt s.rows k → (m k).S b' → (m id).S b' → False := fun k b' h3 h4 h5 h6 => hidk ((hs.dist id k b' hlid h4 h6 h5) ▸ h3)
  have hlive : ∀ j, liveAt rows' j → j ∉ refsOf ys ∧ liveAt s.rows j := by
    intro j ⟨q, hq, hv⟩
    simp only [rows'] at hq
    rw [List.getElem?_set] at hq
    split at hq
    · rename_i e0; subst e0; exact ⟨hidk, hlid⟩
    · rcases deadAll_get _ _ _ _ hq with ⟨_, h4⟩ | ⟨h3, h4⟩
      · subst h4; cases hv
      · exact ⟨h3, q, h4, hv⟩
  have hsrc : ∀ j b', liveAt rows' j → (m' j).S b' → ∃ k, liveAt s.rows k ∧ (m k).S b' ∧ ((k = j) ∨ (j = id ∧ k ∈ refsOf ys)) := by
    intro j b' hl hb'
    obtain ⟨h3, h4⟩ := hlive j hl
    by_cases e0 : j = id
    · rw [e0, hmI] at hb'
      rcases hb' with h5 | ⟨q, h5⟩
      · exact ⟨id, hlid, hblkS b' h5, .inl e0.symm⟩
      · simp only [Sf'] at h5
        split at h5
        · obtain ⟨k, _, h6, h7, h8⟩ := hrk _ _ h5
          exact ⟨k, h7, h8, .inr ⟨e0, h6⟩⟩
        · exact ⟨id, hlid, hSfS _ b' h5, .inl e0.symm⟩
    · rw [hmO j e0] at hb'
      exact ⟨j, h4, hb', .inl rfl⟩
  refine ⟨w.setRow b cur', m', ?_, ?_⟩
  · simp [execOp, Instr.storeAt, hv, Instr.sureAddr, storeVar, sizeOf, typeInfo, hinf, hsz, hvs, hysv, hrun, cur']
  · refine hs.remap (grown_setRow w b cur') (fun b' e0 => by cases e0; exact ⟨id, hlid, hblkS b hb⟩) rows' m' (by rw [hlen']; exact Nat.le_refl _) (fun j _ => hmvv j) (fun j hj => hmO j (by omega)) (fun j b' hl hb' => ?_) ?_ ?_
    · obtain ⟨k, h3, h4, h5⟩ := hsrc j b' hl hb'
      exact .inl ⟨k, h3, h4, fun h6 => by rcases h5 with rfl | ⟨_, h5⟩; exact h6; exact hnbk k (List.mem_cons_of_mem _ h5)⟩
    · intro j1 j2 b' g1 g2 c1 c2
      obtain ⟨k1, a1, a2, a3⟩ := hsrc j1 b' g1 c1
      obtain ⟨k2, d1, d2, d3⟩ := hsrc j2 b' g2 c2
      have e0 := hs.dist k1 k2 b' a1 d1 a2 d2
      rcases a3 with rfl | ⟨rfl, a3⟩ <;> rcases d3 with rfl | ⟨rfl, d3⟩
      · exact e0
      · rw [← e0] at d3; exact ((hlive k1 g1).1 d3).elim
      · rw [e0] at a3; exact ((hlive k2 g2).1 a3).elim
      · rfl
    · intro hG j q hq
      change rows'[j]? = some q at hq
      simp only [rows'] at hq
      rw [List.getElem?_set] at hq
      have hheap' := setRow_heap w b cur cur' R _ hheap
      have hgs := grown_setRow w b cur'
      split at hq
      · rename_i e0
        have hq : Row.tree R e nl none (xs.set i p) = q := by
          split at hq
          · cases hq; rfl
          · cases hq
        subst hq
        rw [← e0, hmI]
        refine .tree ⟨(m id).v, S'⟩ R e nl none (xs.set i p) vals' Sf' ?_ h1 h2 (fun k y' hy' => ?_) (fun k y' jj c u hy' hc hu => .inl ?_) ?_ ?_ ?_ (fun _ => Iff.rfl) (fun _ _ h => by cases h)
        · refine ⟨by rw [hvl']; simp, .inr ⟨b, cap, cur', by rw [List.length_set]; exact hmv, Nat.zero_le _, hheap', by rw [List.length_set]; exact hcap, hmx, by simp [cur']; omega, ?_⟩⟩
          rw [List.length_set]
          refine List.ext_getElem? (fun j => ?_)
          rw [hvget, List.getElem?_take]
          simp only [cur']
          rw [List.getElem?_append, List.getElem?_append]
          simp only [List.length_append, List.length_take, Array.length_toList, hysv]
          have e1 : min (i * e) cur.size = i * e := by omega
          rw [e1, ← htk]
          by_cases hj : j < xs.length * e
          · rw [if_pos hj]
            split
            · split
              · rw [List.getElem?_take, if_pos (by assumption), List.getElem?_take, if_pos hj]
              · simp
            · rw [if_neg (by omega), List.getElem?_drop, show i * e + e + (j - (i * e + e)) = j by omega, List.getElem?_take, if_pos hj]
          · rw [if_neg hj, if_neg (by omega), if_neg (by omega), List.getElem?_take, if_neg hj]
        · rw [List.getElem?_set] at hy'
          split at hy'
          · cases hy'; exact hfp
          · exact hw k y' hy'
        · rw [List.getElem?_set] at hy'
          split at hy'
          · rename_i e1
            subst e1
            cases hy'
            rw [hpc] at hc
            have hjj : jj < e := by rw [← hple]; exact (List.getElem?_eq_some_iff.1 hc).1
            rw [hvget, if_neg (by omega), if_pos (by omega), Nat.add_sub_cancel_left] at hu
            have hSe : Sf' (i * e + jj) = sOf m ys jj := by
              funext b'
              show (if _ then _ else _) = _
              rw [if_pos ⟨by omega, by omega⟩, Nat.add_sub_cancel_left]
            rw [hSe]
            refine (hT jj c u hc hu).mono fun b' hb' => ?_
            obtain ⟨k, _, h6, h7, h8⟩ := hrk _ _ hb'
            exact hgs.block b' (hs.lt h7 h8) (fun e2 => by cases e2; exact hno k b h6 h7 h8 (hblkS b hb))
          · rename_i e1
            have hjj : jj < e := by rw [← (hw k y' hy').1]; exact (List.getElem?_eq_some_iff.1 hc).1
            have hs3 := hsep k jj (Ne.symm e1) hjj
            have hu' : vals[k * e + jj]? = some u := by
              rw [hvget] at hu
              rcases hs3 with h3 | h3
              · rwa [if_pos h3] at hu
              · rwa [if_neg (by omega), if_neg (by omega)] at hu
            have hSe : Sf' (k * e + jj) = Sf (k * e + jj) := by
              funext b'
              show (if _ then _ else _) = _
              rw [if_neg (by omega)]
            rw [hSe]
            exact (hr k y' jj c u hy' hc hu').mono fun b' hb' => hgs.block b' (hs.lt hlid (hSfS _ b' hb')) (fun e2 => by cases e2; exact hn _ b hb' hb)
        · intro q q' b' h3 h4
          simp only [Sf'] at h3 h4
          split at h3 <;> split at h4
          · obtain ⟨k, g1, g2, g3, g4⟩ := hrk _ _ h3
            obtain ⟨k', g1', g2', g3', g4'⟩ := hrk _ _ h4
            have e2 := hs.dist k k' b' g3 g3' g4 g4'
            subst e2
            have := refsOf_inj hnd g1 g1'
            omega
          · obtain ⟨k, g1, g2, g3, g4⟩ := hrk _ _ h3
            exact (hno k b' g2 g3 g4 (hSfS _ b' h4)).elim
          · obtain ⟨k, g1, g2, g3, g4⟩ := hrk _ _ h4
            exact (hno k b' g2 g3 g4 (hSfS _ b' h3)).elim
          · exact hd q q' b' h3 h4
        · intro q b' h3 h4
          simp only [Sf'] at h3
          split at h3
          · obtain ⟨k, g1, g2, g3, g4⟩ := hrk _ _ h3
            exact hno k b' g2 g3 g4 (hblkS b' h4)
          · exact hn q b' h3 h4
        · intro q b' h3 h4
          rw [List.length_set] at h3
          simp only [Sf'] at h4
          split at h4
          · omega
          · exact hz q b' h3 h4
      · rename_i e0
        rcases deadAll_get _ _ _ _ hq with ⟨_, h4⟩ | ⟨h3, h4⟩
        · subst h4; exact .dead _
        · rw [hmO j (Ne.symm e0)]
          exact (hs.rows j q h4).monoV hG (by rw [hlen']; exact Nat.le_refl _) (fun j _ => hmvv j) (fun hl b' hb' => hgs.block b' (hs.lt ⟨q, h4, hl⟩ hb') (fun e2 => by cases e2; exact e0 (hs.dist id j b hlid ⟨q, h4, hl⟩ (hblkS b hb) hb')))
end
end Go.Vl

/- Literals of elements whose slices are their own; 'append' of them; their plain cells. -/
namespace Go.Vl
set_option linter.unusedVariables false
set_option linter.unusedSimpArgs false
open Go.RowKit

section
variable {P : Program} {C : Ctx} {Q : Go.Exit → St → Prop} {s : St} {ops : Array Oper} {rest : List Oper} {t : Nat} {ty : TypeId} {pos : String} {af : Array Edge}

/-- A slice of one element, whose slices' rows go with it. -/
theorem vo_build_treeG {T el e by' k0 : Nat} {d p : PV} {y : Operand} {ys : List SV} {ps : List PV} (hI : ElInfo P T el e by' d) (ht : Nat.blt t s.n = true)
    (hy : cellsG (getO s.env y) = some ys) (hok : okG s.rows (getO s.env y) = true) (hps : pvTs s.rows ys = some ps) (hpc : p.cells = ps) (hfp : fitsB e p = true) (hsm : Nat.ble e 1000 = true)
    (hC : C.nb = k0) (hk : (refsOf ys).all (fun k => Nat.ble k0 k) = true) (hnd : (refsOf ys).Nodup)
    (next : VO P C ops rest Q ⟨s.n, (t, .ref s.rows.length) :: s.env, deadAll (refsOf ys) s.rows ++ [.tree el e (some false) none [p]]⟩) :
    VO P C ops (⟨some t, .buildSlice T 1 #[(0, y)], ty, pos, af, none⟩ :: rest) Q s := by
  obtain ⟨hT, ⟨inf, z, hinf, hsz, hbytes, hz, hzs, hzr⟩, hdf, he⟩ := hI
  refine vo_value (s1 := ⟨s.n, s.env, deadAll (refsOf ys) s.rows ++ [Row.tree el e (some false) none [p]]⟩) (sv := .ref s.rows.length) ht (fun m a w hs => ?_) next
  obtain ⟨hvl, _, hone1⟩ := hs.cellsG hy hok
  obtain ⟨hTc, hlv⟩ := hs.putT hy hok hps
  obtain ⟨hyl, _⟩ := pvTs_get hps
  have hfp := fits_of hfp
  have hsm := Nat.le_of_ble_eq_true hsm
  have hple : ps.length = e := by rw [← hpc]; exact hfp.1
  have hysv : (a.eval y).cells.size = e := by omega
  rw [List.all_eq_true] at hk
  have hnbk : ∀ k, k ∈ refsOf ys → C.nb ≤ k := fun k h => by rw [hC]; exact Nat.le_of_ble_eq_true (hk k h)
  generalize hvs : (a.eval y).cells = vs at *
  let w1 := w.alloc (.cells vs el)
  have hrun : (execOp a.eval ⟨some t, .buildSlice T 1 #[(0, y)], ty, pos, af, none⟩).run P w = .ok (.value (.slice (some ⟨w.heap.size, 0, none⟩) 1 1)) w1 := by
    have hf := Great.fill_whole he [a.eval y] ((Array.range (1 * e)).map (z.cells[· % z.cells.size]!)) (by intro v hv; rw [List.mem_singleton.1 hv, hvs]; exact hysv) (by simp)
    have hpl : (#[(0, y)].map fun (i, x) => (i, a.eval x)).toList = ([a.eval y].zipIdx 0).map fun x => (x.2, x.1) := by simp
    have hvv : ([a.eval y].flatMap fun v => v.cells.toList).toArray = vs := by simp [hvs]
    have := run_buildSlice (P := P) w T el 1 (#[(0, y)].map fun (i, x) => (i, a.eval x)) vs inf z hT hinf hz (by rw [hsz]; omega) (by rw [hsz]; omega) (by rw [hsz, hpl, hf, hvv])
    simp only [execOp, Sem.run_bind, this, Result.andThen_ok]
    rfl
  have hheap : w1.heap[w.heap.size]? = some (.cells vs el (0, 0)) := heap_alloc_new w _
  have hgrow := World.grownBy_alloc w (.cells vs el) none
  have hown1 : w1.ownsRow 0 el e (.slice (some ⟨w.heap.size, 0, none⟩) 1 1) 1 vs.toList := ⟨by simp [hysv], .inr ⟨w.heap.size, 1, vs, rfl, Nat.zero_le _, hheap, Nat.le_refl _, by simp [maxLen], by simp [hysv], by rw [Nat.one_mul]; exact List.take_of_length_le (by simp [hysv])⟩⟩
  let N := s.rows.length
  let Sf' : Nat → Nat → Prop := fun q b' => sOf m ys q b'
  let S' : Nat → Prop := fun b' => b' = w.heap.size ∨ ∃ q, Sf' q b'
  let mv' : MV := ⟨.slice (some ⟨w.heap.size, 0, none⟩) 1 1, S'⟩
  let m' : Nat → MV := updM m N mv'
  let rows' := deadAll (refsOf ys) s.rows ++ [Row.tree el e (some false) none [p]]
  have hlen' : rows'.length = N + 1 := by simp [rows', deadAll_len, N]
  have hmI : m' N = mv' := updM_same ..
  have hmO : ∀ j, j ≠ N → m' j = m j := fun j h => updM_ne _ _ h
  have hrk : ∀ j b', sOf m ys j b' → ∃ k, ys[j]? = some (.ref k) ∧ k ∈ refsOf ys ∧ liveAt s.rows k ∧ (m k).S b' := fun j b' ⟨k, h3, h4⟩ => ⟨k, h3, mem_refsOf h3, hlv j k h3, h4⟩
  have hlive : ∀ j, liveAt rows' j → j = N ∨ (j < N ∧ j ∉ refsOf ys ∧ liveAt s.rows j) := by
    intro j ⟨q, hq, hv⟩
    simp only [rows'] at hq
    rw [List.getElem?_append] at hq
    split at hq
    · rename_i hlt
      rw [deadAll_len] at hlt
      rcases deadAll_get _ _ _ _ hq with ⟨_, h4⟩ | ⟨h3, h4⟩
      · subst h4; cases hv
      · exact .inr ⟨hlt, h3, q, h4, hv⟩
    · rename_i hge
      rw [deadAll_len] at hge hq
      rcases Nat.lt_or_ge (j - s.rows.length) 1 with h1 | h1
      · left; show j = s.rows.length; omega
      · rw [List.getElem?_eq_none (by simpa using h1)] at hq; cases hq
  have hsrc : ∀ j b', liveAt rows' j → (m' j).S b' → (j = N ∧ b' = w.heap.size) ∨ ∃ k, liveAt s.rows k ∧ (m k).S b' ∧ ((k = j ∧ j < N ∧ j ∉ refsOf ys) ∨ (j = N ∧ k ∈ refsOf ys)) := by
    intro j b' hl hb'
    rcases hlive j hl with rfl | ⟨h3, h4, h5⟩
    · rw [hmI] at hb'
      rcases hb' with h6 | ⟨q, h6⟩
      · exact .inl ⟨rfl, h6⟩
      · obtain ⟨k, _, h7, h8, h9⟩ := hrk _ _ h6
        exact .inr ⟨k, h8, h9, .inr ⟨rfl, h7⟩⟩
    · rw [hmO j (by omega)] at hb'
      exact .inr ⟨j, h5, hb', .inl ⟨rfl, h3, h4⟩⟩
  refine ⟨_, _, m', hrun, hs.remap hgrow (fun b h => by cases h) rows' m' (by rw [hlen']; exact Nat.le_succ _) (fun j hj => by rw [hmO j (by show j ≠ s.rows.length; omega)]) (fun j hj => hmO j (by have := hs.nbl; show j ≠ s.rows.length; omega)) (fun j b' hl hb' => ?_) ?_ ?_, ?_⟩
  · rcases hsrc j b' hl hb' with ⟨_, h4⟩ | ⟨k, h3, h4, h5⟩
    · right; omega
    · exact .inl ⟨k, h3, h4, fun h6 => by
        rcases h5 with ⟨rfl, _⟩ | ⟨_, h5⟩
        · exact h6
        · exact hnbk k h5⟩
  · intro j1 j2 b' g1 g2 c1 c2
    rcases hsrc j1 b' g1 c1 with ⟨rfl, a1⟩ | ⟨k1, a1, a2, a3⟩ <;> rcases hsrc j2 b' g2 c2 with ⟨rfl, d1⟩ | ⟨k2, d1, d2, d3⟩
    · rfl
    · have := hs.lt d1 d2; omega
    · have := hs.lt a1 a2; omega
    · have e0 := hs.dist k1 k2 b' a1 d1 a2 d2
      subst e0
      rcases a3 with ⟨a3, a4, a5⟩ | ⟨a3, a4⟩ <;> rcases d3 with ⟨d3, d4, d5⟩ | ⟨d3, d4⟩
      · omega
      · subst a3; exact (a5 d4).elim
      · subst d3; exact (d5 a4).elim
      · omega
  · intro hG j q hq
    change rows'[j]? = some q at hq
    simp only [rows'] at hq
    rw [List.getElem?_append] at hq
    split at hq
    · rename_i hlt
      rw [deadAll_len] at hlt
      rcases deadAll_get _ _ _ _ hq with ⟨_, h4⟩ | ⟨h3, h4⟩
      · subst h4; exact .dead _
      · rw [hmO j (by show j ≠ s.rows.length; omega)]
        exact (hs.rows j q h4).monoV hG (by rw [hlen']; exact Nat.le_succ _) (fun j hj => by rw [hmO j (by show j ≠ s.rows.length; omega)]) (fun hl b' hb' => hgrow.block b' (hs.lt ⟨q, h4, hl⟩ hb') (by simp))
    · rename_i hge
      rw [deadAll_len] at hge hq
      have hj : j = s.rows.length := by
        rcases Nat.lt_or_ge (j - s.rows.length) 1 with h1 | h1
        · omega
        · rw [List.getElem?_eq_none (by simpa using h1)] at hq; cases hq
      subst hj
      simp at hq
      subst hq
      show RowOK _ _ _ _ (m' N) _
      rw [hmI]
      refine .tree mv' el e (some false) none [p] vs.toList Sf' hown1 (fun h => by cases h) (fun _ h => by cases h) (fun k y' hy' => ?_) (fun k y' jj c u hy' hc hu => .inl ?_) ?_ ?_ ?_ (fun b' => ?_) (fun _ _ h => by cases h)
      · match k, hy' with
        | 0, hy' => cases hy'; exact hfp
      · match k, hy' with
        | 0, hy' =>
          cases hy'
          rw [hpc] at hc
          have hu' : vs[jj]? = some u := by simpa using hu
          rw [Nat.zero_mul, Nat.zero_add]
          refine (hTc jj c u hc hu').mono fun b' hb' => ?_
          obtain ⟨k, _, h6, h7, h8⟩ := hrk _ _ hb'
          exact hgrow.block b' (hs.lt h7 h8) (by simp)
      · intro q q' b' h3 h4
        obtain ⟨k, g1, g2, g3, g4⟩ := hrk _ _ h3
        obtain ⟨k', g1', g2', g3', g4'⟩ := hrk _ _ h4
        have e2 := hs.dist k k' b' g3 g3' g4 g4'
        subst e2
        exact refsOf_inj hnd g1 g1'
      · intro q b' h3 h4
        obtain ⟨k, g1, g2, g3, g4⟩ := hrk _ _ h3
        have := hs.lt g3 g4
        simp [mv', blk] at h4
        omega
      · intro q b' h3 h4
        obtain ⟨k, g1, g2, g3, g4⟩ := hrk _ _ h4
        have := (List.getElem?_eq_some_iff.1 g1).1
        simp at h3
        omega
      · constructor
        · rintro (h | h)
          · left; rw [h]; rfl
          · exact .inr h
        · rintro (h | h)
          · left; simp [mv', blk] at h; exact h.symm
          · exact .inr h
  · have := RS.ref (w := w1) (G := Gd C rows' m' w1) (m := m') (N := rows'.length) N (by rw [hlen']; omega)
    rw [hmI] at this
    exact this

/-- 'append' of such a slice to a row whose slices are its own. -/
theorem vo_append_treeG {x y : Operand} {id k T el e by' : Nat} {nl nly : Option Bool} {xs ys : List PV} {d : PV} (hI : ElInfo P T el e by' d) (ht : Nat.blt t s.n = true) (hnb : C.nb ≤ id) (hnk : C.nb ≤ k) (hne : Nat.beq id k = false)
    (hx : getO s.env x = .ref id) (hrow : s.rows[id]? = some (.tree el e nl none xs)) (hy : getO s.env y = .ref k) (hrk : s.rows[k]? = some (.tree el e nly none ys))
    (hby : (xs.length + ys.length) * by' ≤ 140737488355328) (hmx : xs.length + ys.length ≤ 9223372036854775807) (hys : 0 < ys.length)
    (next : VO P C ops rest Q ⟨s.n, (t, .ref id) :: killE id s.env, ((s.rows.map (Row.kill id)).set k .dead).set id (Row.tree el e (if nl = some false then some false else none) none (xs ++ ys))⟩) :
    VO P C ops (⟨some t, .call ⟨.builtin .append, #[x, y], #[T, T]⟩, ty, pos, af, none⟩ :: rest) Q s := by
  obtain ⟨hT, ⟨inf, z, hinf, hsz, hbytes, hz, hzs, hzr⟩, hdf, he⟩ := hI
  refine vo_value (s1 := ⟨s.n, killE id s.env, ((s.rows.map (Row.kill id)).set k .dead).set id (Row.tree el e (if nl = some false then some false else none) none (xs ++ ys))⟩) (sv := .ref id) ht (fun m a w hs => ?_) next
  have hne : id ≠ k := fun e => by subst e; rw [Nat.beq_refl] at hne; cases hne
  obtain ⟨hvx, hidl⟩ := hs.row hx
  obtain ⟨hvy, hkl⟩ := hs.row hy
  have hlid : liveAt s.rows id := ⟨_, hrow, rfl⟩
  have hlk : liveAt s.rows k := ⟨_, hrk, rfl⟩
  have hR := hs.rows id _ hrow
  have hK := hs.rows k _ hrk
  have hdist := hs.dist
  have hlti : ∀ b, (m id).S b → b < w.heap.size := fun b h => hs.lt hlid h
  have hltk : ∀ b, (m k).S b → b < w.heap.size := fun b h => hs.lt hlk h
  generalize hmi : m id = vi at *
  generalize hmk : m k = vk at *
  cases hR with
  | tree vi t1 e1 nl1 h1' xs1 vals Sf hown h1 h2 hw hr hd hn hz1 hS hkn =>
    cases hK with
    | tree vk t2 e2 nl2 h2' ys1 vals2 Sf2 hown2 k1 k2 hw2 hr2 hd2 hn2 hz2 hS2 hkn2 =>
      have hl1 : vals.length = xs.length * e := hown.1
      have hl2 : vals2.length = ys.length * e := hown2.1
      rcases hown2.2 with ⟨ey, hn0⟩ | ⟨g2, cap2, cur2, ey, h02, hh2, hle2, hmx2, hsz2, htk2⟩
      · omega
      · have hcell2 := World.ownsRow.cells hown2 (show vk.v.ownBlock = some g2 by rw [ey]; rfl)
        have hone2 : ∀ u ∈ vals2, u.oneCell' = true := by
          intro u hu
          obtain ⟨q, hq⟩ := List.getElem?_of_mem hu
          have hq1 : q < ys.length * e := by rw [← hl2]; exact (List.getElem?_eq_some_iff.1 hq).1
          obtain ⟨x0, c0, u0, hx0, hc0, hu0, e0⟩ := cellAt hown2 hw2 hq1
          have := hr2 _ x0 _ c0 u0 hx0 hc0 hu0
          rw [e0] at hu0
          rw [hq] at hu0
          cases hu0
          exact this.oneCell
        obtain ⟨v', w', hrun, hown', hg, hnil, hblk⟩ := run_append_own_at (P := P) w 0 T ty el inf z e by' hT hinf hz hsz hbytes hzs he vi.v xs.length vals hown ⟨g2, 0, none⟩ ys.length cap2 vals2 hl2 hcell2 hone2
          (by simpa [maxLen] using hmx) hby (Nat.zero_le _)
        have hvb : vi.v.ownBlock = blk vi.v := by
          rcases hown.2 with ⟨e, _⟩ | ⟨g, cp, cur, e, _⟩ <;> rw [e] <;> rfl
        have hv'b : v'.ownBlock = blk v' := by
          rcases hown'.2 with ⟨e, _⟩ | ⟨g, cp, cur, e, _⟩ <;> rw [e] <;> rfl
        have hrun' : (Builtin.append_ #[T, T] ty #[a.eval x, a.eval y]).run P w = .ok v' w' := by
          rw [hvx, hvy, ey]; exact hrun
        have hblk2 : ∀ b, blk v' = some b → vi.S b ∨ w.heap.size ≤ b := by
          intro b hb
          rw [← hv'b] at hb
          rcases hblk with h3 | h3
          · left; refine (hS b).2 (.inl ?_); rw [← hvb, ← h3]; exact hb
          · right; rw [h3] at hb; cases hb; exact Nat.le_refl _
        have hdisj : ∀ b, vi.S b → vk.S b → False := fun b h3 h4 => hne (hdist id k b hlid hlk (by rw [hmi]; exact h3) (by rw [hmk]; exact h4))
        let Sf' : Nat → Nat → Prop := fun q b => if q < xs.length * e then Sf q b else Sf2 (q - xs.length * e) b
        have hSfi : ∀ q b, Sf q b → vi.S b := fun q b h => (hS b).2 (.inr ⟨q, h⟩)
        have hSfk : ∀ q b, Sf2 q b → vk.S b := fun q b h => (hS2 b).2 (.inr ⟨q, h⟩)
        have hj := hs.joinRow (w' := w') (bo := blk vi.v) hne hlid hlk hnb hnk (fun b hb => by rw [hmi]; exact (hS b).2 (.inl hb)) (by rw [← hvb]; exact hg) (.tree el e (if nl = some false then some false else none) none (xs ++ ys)) ⟨v', fun b => blk v' = some b ∨ ∃ q, Sf' q b⟩
          (fun b hb => by
            rw [hmi, hmk]
            rcases hb with hb | ⟨q, hb⟩
            · rcases hblk2 b hb with h3 | h3
              · exact .inl h3
              · exact .inr (.inr h3)
            · simp only [Sf'] at hb
              split at hb
              · exact .inl (hSfi _ _ hb)
              · exact .inr (.inl (hSfk _ _ hb))) (fun hG => by
            refine .tree ⟨v', fun b => blk v' = some b ∨ ∃ q, Sf' q b⟩ el e _ none (xs ++ ys) (vals ++ vals2) Sf' (by simpa using hown') (fun h => by split at h <;> simp at h) (fun h => ?_) (fits_append hw hw2) ?_ ?_ ?_ ?_ (fun b => Iff.rfl) (fun _ _ h => by cases h)
            · split at h
              · rename_i hnl
                intro hv'
                exact h2 hnl (hnil.1 hv').1
              · simp at h
            · intro i x jj c u hx hc hu
              have hjj : jj < e := by
                have hf := fits_append hw hw2 i x hx
                rw [← hf.1]; exact (List.getElem?_eq_some_iff.1 hc).1
              rw [List.getElem?_append] at hx hu
              refine .inl ?_
              rcases Nat.lt_or_ge i xs.length with hi | hi
              · rw [if_pos hi] at hx
                have hq : i * e + jj < xs.length * e := by
                  have := Nat.mul_le_mul_right e (show i + 1 ≤ xs.length by omega)
                  rw [Nat.add_mul] at this
                  omega
                rw [if_pos (by omega)] at hu
                have hSi : Sf' (i * e + jj) = Sf (i * e + jj) := by funext b; show (if _ then _ else _) = _; rw [if_pos hq]
                rw [hSi]
                exact ((hr i x jj c u hx hc hu).tp).mono fun b hb => hg.block b (hlti b (hSfi _ _ hb)) (fun e => hn _ b hb (by rw [← hvb]; exact e.symm))
              · rw [if_neg (by omega)] at hx
                have hq : xs.length * e ≤ i * e + jj := by
                  have := Nat.mul_le_mul_right e hi
                  omega
                have hq2 : i * e + jj - xs.length * e = (i - xs.length) * e + jj := by
                  rw [Nat.sub_mul]
                  have := Nat.mul_le_mul_right e hi
                  omega
                rw [if_neg (by omega), hl1, hq2] at hu
                have hSi : Sf' (i * e + jj) = Sf2 ((i - xs.length) * e + jj) := by funext b; show (if _ then _ else _) = _; rw [if_neg (by omega), hq2]
                rw [hSi]
                exact ((hr2 (i - xs.length) x jj c u hx hc hu).tp).mono fun b hb => hg.block b (hltk b (hSfk _ _ hb)) (fun e => hdisj b ((hS b).2 (.inl (by rw [← hvb]; exact e.symm))) (hSfk _ _ hb))
            · intro q q' b h3 h4
              simp only [Sf'] at h3 h4
              split at h3 <;> split at h4
              · exact hd q q' b h3 h4
              · exact (hdisj b (hSfi _ _ h3) (hSfk _ _ h4)).elim
              · exact (hdisj b (hSfi _ _ h4) (hSfk _ _ h3)).elim
              · have := hd2 _ _ b h3 h4; omega
            · intro q b h3 h4
              have h5 : b < w.heap.size := by
                simp only [Sf'] at h3
                split at h3
                · exact hlti b (hSfi _ _ h3)
                · exact hltk b (hSfk _ _ h3)
              rw [← hv'b] at h4
              rcases hblk with h6 | h6
              · rw [h6, hvb] at h4
                simp only [Sf'] at h3
                split at h3
                · exact hn q b h3 h4
                · exact hdisj b ((hS b).2 (.inl h4)) (hSfk _ _ h3)
              · rw [h6] at h4; cases h4; omega
            · intro q b h3 h4
              simp only [Sf'] at h4
              rw [List.length_append, Nat.add_mul] at h3
              split at h4
              · omega
              · exact hz2 _ b (by omega) h4)
        refine ⟨v', w', _, by simp [execOp, resolve, invoke, builtin, hrun'], hj, ?_⟩
        have := RS.ref (w := w') (G := Gd C (((s.rows.map (Row.kill id)).set k .dead).set id (Row.tree el e (if nl = some false then some false else none) none (xs ++ ys))) (updM m id ⟨v', fun b => blk v' = some b ∨ ∃ q, Sf' q b⟩) w') (m := updM m id ⟨v', fun b => blk v' = some b ∨ ∃ q, Sf' q b⟩)
          (N := (((s.rows.map (Row.kill id)).set k .dead).set id (Row.tree el e (if nl = some false then some false else none) none (xs ++ ys))).length) id (by simpa using hidl)
        rw [updM_same] at this
        exact this

theorem SimM.weaktree {m : Nat → MV} {a : Act} {w : World} (hs : SimM C s m a w) {id R e : Nat} {nl : Option Bool} {xs : List PV} (hrow : s.rows[id]? = some (.tree R e nl none xs)) : SimM C ⟨s.n, s.env, s.rows.set id (.tree R e none none xs)⟩ m a w := by
  have hlid : liveAt s.rows id := ⟨_, hrow, rfl⟩
  refine hs.storeRow (w' := w) hlid (bo := none) (fun b h => by cases h) (grown_refl w) _ (fun hG => ?_)
  have := (hs.rows id _ hrow).mono hG (Nat.le_refl _) (fun _ _ => rfl) (fun _ _ _ => rfl)
  generalize m id = mv at this ⊢
  cases this with
  | tree mv t' e nl h xs vals Sf hown h1 h2 hw hr hd hn hz hS hkn =>
    exact .tree _ _ _ none none _ vals Sf hown (fun h => by cases h) (fun h => by cases h) hw hr hd hn hz hS hkn

theorem vo_weaktree {l : List Oper} (id : Nat) {R e : Nat} {nl : Option Bool} {xs : List PV} (hrow : s.rows[id]? = some (.tree R e nl none xs)) (next : VO P C ops l Q ⟨s.n, s.env, s.rows.set id (.tree R e none none xs)⟩) : VO P C ops l Q s :=
  fun a w ⟨m, hs⟩ => next a w ⟨m, hs.weaktree hrow⟩
theorem vc_weaktree {code : Code} (id : Nat) {R e : Nat} {nl : Option Bool} {xs : List PV} (hrow : s.rows[id]? = some (.tree R e nl none xs)) (next : VC P C code Q ⟨s.n, s.env, s.rows.set id (.tree R e none none xs)⟩) : VC P C code Q s :=
  fun a w ⟨m, hs⟩ => next a w ⟨m, hs.weaktree hrow⟩
end
end Go.Vl

/- Maps from numbers to numbers that the call made itself. -/
namespace Go.Vl
set_option linter.unusedVariables false
set_option linter.unusedSimpArgs false
open Go.RowKit

def mapI (h : Int → Option Int) : Int → Option PV := fun k => (h k).map intP
def updI (h : Int → Option Int) (k v : Int) : Int → Option Int := fun j => if j = k then some v else h j
def delI (h : Int → Option Int) (k : Int) : Int → Option Int := fun j => if j = k then none else h j
def nilI : Int → Option Int := fun _ => none

section
variable {P : Program} {C : Ctx} {Q : Go.Exit → St → Prop} {s : St} {ops : Array Oper} {rest : List Oper} {t : Nat} {ty : TypeId} {pos : String} {af : Array Edge}

end
end Go.Vl

/- Parts of a slice of the call's own: 'append(x[:i], x[j:]...)', a slice cut shorter, 'clear' behind its end. -/
namespace Go.Vl
set_option linter.unusedVariables false
set_option linter.unusedSimpArgs false
open Go.RowKit

section
variable {P : Program} {C : Ctx} {Q : Go.Exit → St → Prop} {s : St} {ops : Array Oper} {rest : List Oper} {t : Nat} {ty : TypeId} {pos : String} {af : Array Edge}

theorem SimM.sub {m : Nat → MV} {a : Act} {w : World} (hs : SimM C s m a w) {x : Operand} {id e l h c : Nat} (hx : getO s.env x = .sub id e l h c) : isSub (m id).v e l h c (a.eval x) ∧ id < s.rows.length := by
  have := hs.get x
  rw [hx] at this
  generalize a.eval x = v at this
  cases this with
  | sub _ _ _ _ _ _ hid hs => exact ⟨hs, hid⟩

end
end Go.Vl

/- Loops in which some slots and some rows turn; states made plain. -/
namespace Go.Vl
set_option linter.unusedVariables false
set_option linter.unusedSimpArgs false
open Go.RowKit

def setAll : List Row → List Nat → List Row → List Row
  | rows, [], _ => rows
  | rows, _ :: _, [] => rows
  | rows, i :: is, r :: rs => setAll (rows.set i r) is rs

def pickR (rows : List Row) (ch : List Nat) : List Row := ch.map fun i => (rows[i]?).getD .dead

section
variable {P : Program} {C : Ctx} {Q : Go.Exit → St → Prop} {s : St}

def againE (N : Nat) (Lf Lv ch : List Nat) (k : Nat) (F : List SV) (R : List Row) (I : Nat → List SV → List Row → Prop) (n : Nat) (s' : St) : Prop :=
  again N (Lf ++ Lv) k (fun m us rows => us.take Lf.length = F ∧ ∃ rs, rs.length = ch.length ∧ rows = setAll R ch rs ∧ I m (us.drop Lf.length) rs) n s'

/-- A loop whose slots Lf stay as they are, and all rows but those of ch. -/
theorem vc_loopE {c : Code} (Lf Lv ch : List Nat) (F : List SV) (R : List Row) (I : Nat → List SV → List Row → Prop) (n0 : Nat) (hF : (Lf.map fun t => look s.env t) = F) (hR : s.rows = R) (hnb : C.nb ≤ R.length)
    (hb0 : F.all (SV.bdd R.length) = true ∧ (Lv.map fun t => look s.env t).all (SV.bdd R.length) = true ∧ R.all (Row.bdd R.length) = true) (hself : setAll R ch (pickR R ch) = R)
    (h0 : I n0 (Lv.map fun t => look s.env t) (pickR R ch))
    (hround : ∀ n vs rs, vs.length = Lv.length → rs.length = ch.length → I n vs rs → VC P C c (thn (againE s.n Lf Lv ch R.length F R I n) Q) ⟨s.n, Lf.zip F ++ Lv.zip vs, setAll R ch rs⟩) :
    VC P C (.loop c) Q s := by
  subst hR
  subst hF
  have hl : (Lf.map fun t => look s.env t).length = Lf.length := by simp
  refine vc_loop (Lf ++ Lv) (fun m us rows => us.take Lf.length = (Lf.map fun t => look s.env t) ∧ ∃ rs, rs.length = ch.length ∧ rows = setAll s.rows ch rs ∧ I m (us.drop Lf.length) rs) n0 hnb ⟨?_, hb0.2.2⟩ ⟨?_, pickR s.rows ch, by simp [pickR], hself.symm, ?_⟩ ?_
  · rw [List.map_append, List.all_append, hb0.1, hb0.2.1]; rfl
  · rw [List.map_append]; simp
  · rw [List.map_append, show Lf.length = (Lf.map fun t => look s.env t).length from hl.symm, List.drop_left]; exact h0
  · rintro n vs rows hv - ⟨h1, rs, hrs, rfl, h2⟩
    have hv' : vs.length = Lf.length + Lv.length := by simpa using hv
    have := hround n (vs.drop Lf.length) rs (by simp; omega) hrs h2
    have e : (Lf ++ Lv).zip vs = Lf.zip (Lf.map fun t => look s.env t) ++ Lv.zip (vs.drop Lf.length) := by
      rw [← h1]
      conv => lhs; rw [← List.take_append_drop Lf.length vs]
      exact List.zip_append (by simp; omega)
    rw [e]
    exact this

theorem againE_mk {N : Nat} {Lf Lv ch : List Nat} {k : Nat} {F : List SV} {R : List Row} {I : Nat → List SV → List Row → Prop} {n : Nat} {s' : St} (h0 : Nat.beq s'.n N = true) (h1 : Nat.ble k s'.rows.length = true)
    (h2 : ((Lf ++ Lv).map fun t => look s'.env t).all (SV.bdd k) = true) (h3 : (s'.rows.take k).all (Row.bdd k) = true)
    (hF : (Lf.map fun t => look s'.env t) = F) (hR : s'.rows.take k = setAll R ch (pickR s'.rows ch))
    (h : ∃ n', n' < n ∧ I n' (Lv.map fun t => look s'.env t) (pickR s'.rows ch)) : againE N Lf Lv ch k F R I n s' := by
  refine ⟨⟨Nat.eq_of_beq_eq_true h0, Nat.le_of_ble_eq_true h1, h2, h3⟩, ?_⟩
  obtain ⟨n', hn, hI⟩ := h
  refine ⟨n', hn, ?_, pickR s'.rows ch, by simp [pickR], hR, ?_⟩
  · rw [List.map_append, ← hF]; simp
  · rw [List.map_append, show Lf.length = (Lf.map fun t => look s'.env t).length by simp, List.drop_left]; exact hI
end

section
variable {late : List Nat} {P : Program} {C : Ctx} {Q : Go.Exit → St → Prop} {K : St → Prop} {s s' : St} {ops : Array Oper} {n : Nat} {listed : Array Bool}
theorem vo_stM {l : List Oper} (next : VO P C ops l Q s') (h : s = s' := by (try simp only [St.put, exposeE, killE, SV.expose, SV.kill, Row.expose, Row.kill, rowsAfter_nil, rowsAfter_one, packS, SV.shift, placeOf, enumE, List.zip_cons_cons, List.zip_nil_right, List.map_cons, List.map_nil, List.set_cons_zero, List.set_cons_succ, List.length_cons, List.length_nil, List.cons_append, List.nil_append, List.drop_succ_cons, List.drop_zero, List.drop_nil, List.take_succ_cons, List.take_zero, List.take_nil, List.getElem?_cons_zero, List.getElem?_cons_succ, List.getElem?_nil, Option.getD_some, Option.getD_none, Option.map_some, Option.map_none, Nat.reduceAdd, Nat.reduceSub, Nat.reduceEqDiff, Nat.zero_add, Bool.true_or, PV.scal, Bool.or_false, Bool.or_true, Bool.false_or, Bool.and_true, Bool.and_false, Bool.true_and, reduceIte, reduceCtorEq, SV.kill1, SV.expose1, deadAll, refsOf, List.foldl_cons, List.foldl_nil, takeSV, takeRows, takeP, takePV, setAll, resG, look_cons, Nat.succ.injEq, Nat.add_eq, Nat.mul_one, Nat.mul_zero, Nat.zero_mul, Nat.add_zero, List.map_map, PV.cells, Nat.reduceMul, List.append_nil, Option.some.injEq, Int.toNat_natCast]); exact eq_refl _) : VO P C ops l Q s := vo_st h next
theorem vc_stM {code : Code} (next : VC P C code Q s') (h : s = s' := by (try simp only [St.put, exposeE, killE, SV.expose, SV.kill, Row.expose, Row.kill, rowsAfter_nil, rowsAfter_one, packS, SV.shift, placeOf, enumE, List.zip_cons_cons, List.zip_nil_right, List.map_cons, List.map_nil, List.set_cons_zero, List.set_cons_succ, List.length_cons, List.length_nil, List.cons_append, List.nil_append, List.drop_succ_cons, List.drop_zero, List.drop_nil, List.take_succ_cons, List.take_zero, List.take_nil, List.getElem?_cons_zero, List.getElem?_cons_succ, List.getElem?_nil, Option.getD_some, Option.getD_none, Option.map_some, Option.map_none, Nat.reduceAdd, Nat.reduceSub, Nat.reduceEqDiff, Nat.zero_add, Bool.true_or, PV.scal, Bool.or_false, Bool.or_true, Bool.false_or, Bool.and_true, Bool.and_false, Bool.true_and, reduceIte, reduceCtorEq, SV.kill1, SV.expose1, deadAll, refsOf, List.foldl_cons, List.foldl_nil, takeSV, takeRows, takeP, takePV, setAll, resG, look_cons, Nat.succ.injEq, Nat.add_eq, Nat.mul_one, Nat.mul_zero, Nat.zero_mul, Nat.add_zero, List.map_map, PV.cells, Nat.reduceMul, List.append_nil, Option.some.injEq, Int.toNat_natCast]); exact eq_refl _) : VC P C code Q s := vc_st h next
theorem vd_stM (next : VD P C ops n listed K s') (h : s = s' := by (try simp only [St.put, exposeE, killE, SV.expose, SV.kill, Row.expose, Row.kill, rowsAfter_nil, rowsAfter_one, packS, SV.shift, placeOf, enumE, List.zip_cons_cons, List.zip_nil_right, List.map_cons, List.map_nil, List.set_cons_zero, List.set_cons_succ, List.length_cons, List.length_nil, List.cons_append, List.nil_append, List.drop_succ_cons, List.drop_zero, List.drop_nil, List.take_succ_cons, List.take_zero, List.take_nil, List.getElem?_cons_zero, List.getElem?_cons_succ, List.getElem?_nil, Option.getD_some, Option.getD_none, Option.map_some, Option.map_none, Nat.reduceAdd, Nat.reduceSub, Nat.reduceEqDiff, Nat.zero_add, Bool.true_or, PV.scal, Bool.or_false, Bool.or_true, Bool.false_or, Bool.and_true, Bool.and_false, Bool.true_and, reduceIte, reduceCtorEq, SV.kill1, SV.expose1, deadAll, refsOf, List.foldl_cons, List.foldl_nil, takeSV, takeRows, takeP, takePV, setAll, resG, look_cons, Nat.succ.injEq, Nat.add_eq, Nat.mul_one, Nat.mul_zero, Nat.zero_mul, Nat.add_zero, List.map_map, PV.cells, Nat.reduceMul, List.append_nil, Option.some.injEq, Int.toNat_natCast]); exact eq_refl _) : VD P C ops n listed K s := vd_st h next
end
end Go.Vl

/- The way into a function, and what it hands back: values, structs, and rows of its own. -/
namespace Go.Vl
set_option linter.unusedVariables false
set_option linter.unusedSimpArgs false
open Go.RowKit

def retQ (C : Ctx) (rs : List (Nat × Option (Nat × Nat))) (R : List SV → List Row → Prop) (e : Go.Exit) (s : St) : Prop :=
  (e = .normal ∨ e = .ret) ∧ rs.all (resGOK s) = true ∧ ∃ res rows', res.length = rs.length ∧ Hands C (List.range rs.length) res rows' ⟨rs.length, enumE 0 (rs.map (resG s)), s.rows⟩ ∧ R res rows'

section
variable {P : Program}

theorem sat_entry_G {f : FuncId} {fn : Func} {c : Code} {args : List SV} {rows : List Row} {R : List SV → List Row → Prop} {rs : List (Nat × Option (Nat × Nat))} (hf : P.funcs[f]? = some fn) (hb : fn.body = some c)
    (hr : fn.results = (rs.map resVar).toArray) (hl : rs.length ≤ 5) (hn : args.length ≤ fn.ntmps) (hT : ∀ r ∈ rs, resT P r)
    (h : ∀ C : Ctx, C.nb = rows.length → VC P C c (retQ C rs R) ⟨fn.ntmps, enumE 0 args, rows⟩) : SatAt P f args rows R := by
  intro C m vals hnb hA hv hs
  refine calls_of_wp hf hb ?_
  have hs2 : SimM C ⟨fn.ntmps, enumE 0 args, rows⟩ m { tmps := vals ++ Array.replicate (fn.ntmps - vals.size) undef, defers := [] } C.w0 := by
    refine { hs with size := ?_, env := fun t => ?_, defs := rfl }
    · simp; omega
    · have := hs.env t
      show RS _ _ _ _ (look (enumE 0 args) t) _
      change RS _ _ _ _ (look (enumE 0 args) t) _ at this
      by_cases ht : t < vals.size
      · have e : (vals ++ Array.replicate (fn.ntmps - vals.size) undef).getD t undef = vals.getD t undef := by
          simp [Array.getD, ht]
          intro hh; omega
        rw [e]
        exact this
      · have e : look (enumE 0 args) t = .any := by
          rw [look_enumE]
          simp
          rw [List.getElem?_eq_none (by omega)]
          rfl
        rw [e]
        exact .any _
  refine wp_mono (h C hnb _ _ ⟨m, hs2⟩) ?_
  rintro e a w' ⟨s', ⟨m', hs'⟩, he, hok, res, rows', hlen, hh, hR⟩
  obtain ⟨us, hrun, hul, hus⟩ := run_resGA (P := P) hs' hr hl hT hok
  have hs3 : SimM C ⟨rs.length, enumE 0 (rs.map (resG s')), s'.rows⟩ m' ⟨us, []⟩ w' := { hs' with
    defs := rfl
    size := hul
    env := fun t => by
      show RS _ _ _ _ (look (enumE 0 (rs.map (resG s'))) t) _
      rw [look_enumE]
      simp only [Nat.zero_le, if_true, Nat.sub_zero]
      rcases Nat.lt_or_ge t rs.length with ht | ht
      · simp only [List.getElem?_map, List.getElem?_eq_getElem ht, Option.map_some, Option.getD_some]
        exact hus t _ (List.getElem?_eq_getElem ht)
      · simp only [List.getElem?_map, List.getElem?_eq_none ht, Option.map_none, Option.getD_none]
        exact .any _ }
  obtain ⟨m2, hm2⟩ := hh m' _ w' hs3
  have hts : ((List.range rs.length).map fun t => us.getD t undef).toArray = us := by
    apply Array.ext_getElem?
    intro i
    simp only [List.getElem?_toArray, List.getElem?_map]
    rcases Nat.lt_or_ge i rs.length with hi | hi
    · rw [List.getElem?_range hi, Array.getElem?_eq_getElem (by omega)]
      simp [Array.getD, show i < us.size by omega]
    · rw [List.getElem?_eq_none (by simpa using hi), Array.getElem?_eq_none (by omega)]
      rfl
  have key : ∃ v, (results fn a.tmps).run P w' = .ok v w' ∧ (∃ (us : Array Value) (res : List SV) (rows' : List Row) (m' : Nat → MV), Ending.returned v = .returned (pack us) ∧ us.size = res.length ∧
      SimM C ⟨us.size, enumE 0 res, rows'⟩ m' ⟨us, []⟩ w' ∧ R res rows') := by
    refine ⟨_, hrun, us, res, rows', m2, rfl, by rw [hul, hlen], ?_, hR⟩
    change SimM C ⟨_, _, _⟩ m2 ⟨((List.range rs.length).map fun t => us.getD t undef).toArray, []⟩ w' at hm2
    rw [hts] at hm2
    rw [hul]
    simpa using hm2
  obtain ⟨v, hv1, hv2⟩ := key
  rcases he with rfl | rfl
  · exact ⟨hs'.defs, v, hv1, hv2⟩
  · exact ⟨hs'.defs, v, hv1, hv2⟩

theorem retQ_sel {C : Ctx} {rs : List (Nat × Option (Nat × Nat))} {R : List SV → List Row → Prop} {s : St} {e : Go.Exit} {k : Nat} (sel : List Nat) {srows : List Row} (he : e = .normal ∨ e = .ret) (hnb : C.nb = k) (hok : rs.all (resGOK s) = true) (hkl : Nat.ble k s.rows.length = true)
    (h3 : sel.map (placeOf sel) = (List.range sel.length).map some) (hsr : sel.map (fun id => s.rows[id]?) = srows.map some) (hge : sel.all (fun id => Nat.ble k id) = true) (hb1 : (s.rows.take k).all (Row.bdd k) = true) (hb2 : srows.all (Row.bdd 0) = true)
    (hR : R ((List.range rs.length).map fun t => renS k sel (look (enumE 0 (rs.map (resG s))) t)) (s.rows.take k ++ srows)) : retQ C rs R e s :=
  ⟨he, hok, _, _, by simp, hands_sel (s := ⟨rs.length, enumE 0 (rs.map (resG s)), s.rows⟩) (ts := List.range rs.length) sel hnb hkl h3 hsr hge hb1 hb2, hR⟩
end
end Go.Vl

/- A field of an element of a row is written. -/
namespace Go.Vl
set_option linter.unusedVariables false
set_option linter.unusedSimpArgs false
open Go.RowKit
section
variable {P : Program} {C : Ctx} {Q : Go.Exit → St → Prop} {s : St} {ops : Array Oper} {rest : List Oper} {t : Nat} {ty : TypeId} {pos : String} {af : Array Edge}

end
end Go.Vl
