/- Rules: slice literals, make, stores and loads in rows of the call's own, and the ghost steps: a nil slice becomes a row, a row is handed on. -/
import Derived.Test.YtmjbklmjehjpoacVlOps4
import Derived.Great.BuildSlice
namespace Go.Vl
set_option linter.unusedVariables false
set_option linter.unusedSimpArgs false
open Go.RowKit

def fitsB (e : Nat) (x : PV) : Bool := Nat.beq x.cells.length e && x.cells.all (fun c => !c.isAgg)

theorem fits_of {e : Nat} {x : PV} (h : fitsB e x = true) : x.fits e := by
  simp only [fitsB, Bool.and_eq_true, List.all_eq_true, Bool.not_eq_true'] at h
  exact ⟨Nat.eq_of_beq_eq_true h.1, fun j c hc => h.2 c (List.mem_of_getElem? hc)⟩

theorem RP.cells {w : World} {G : Nat → Prop} {p : PV} {v : Value} (h : RP w G p v) : v.cells.size = p.cells.length ∧ ∀ (j : Nat) (c : PV), p.cells[j]? = some c → ∃ u, v.cells[j]? = some u ∧ RP w G c u := by
  have one : ∀ (p : PV) (v : Value), RP w G p v → p.cells = [p] → v.cells = #[v] → v.cells.size = p.cells.length ∧ ∀ (j : Nat) (c : PV), p.cells[j]? = some c → ∃ u, v.cells[j]? = some u ∧ RP w G c u := by
    intro p v h e1 e2
    rw [e1, e2]
    refine ⟨rfl, fun j c hc => ?_⟩
    match j, hc with
    | 0, hc => simp at hc; subst hc; exact ⟨v, rfl, h⟩
  cases h with
  | int k n => exact one _ _ (.int k n) rfl rfl
  | bool b => exact one _ _ (.bool b) rfl rfl
  | str s => exact one _ _ (.str s) rfl rfl
  | nilsl nl e h => exact one _ _ (.nilsl nl e h) rfl rfl
  | sl nl e xs a len cap f h hs hl hcap hg hw hc hr => exact one _ _ (.sl nl e xs a len cap f h hs hl hcap hg hw hc hr) rfl rfl
  | agg cs vs hl h1 h =>
    refine ⟨hl, fun j c hc => ?_⟩
    have hlt : j < vs.size := by rw [hl]; exact (List.getElem?_eq_some_iff.1 hc).1
    exact ⟨vs[j], Array.getElem?_eq_getElem hlt, h j c _ hc (Array.getElem?_eq_getElem hlt)⟩

/-- The parts of a slice literal. -/
def collectP (env : List (Nat × SV)) : Nat → List (Nat × Operand) → Option (Bool × List PV)
  | _, [] => some (true, [])
  | j, (i, x) :: rest => bif Nat.beq i j then
      (match getO env x, collectP env (j + 1) rest with
      | .pv f p, some (f', ps) => some ((f || p.scal) && f', p :: ps)
      | _, _ => none) else none

section
variable {P : Program} {C : Ctx} {Q : Go.Exit → St → Prop} {s : St}
variable {ops : Array Oper} {rest : List Oper} {t : Nat} {ty : TypeId} {pos : String} {af : Array Edge}

theorem collect_vals {m : Nat → MV} {a : Act} {w : World} (h : SimM C s m a w) : ∀ (l : List (Nat × Operand)) (j : Nat) (f : Bool) (xs : List PV), collectP s.env j l = some (f, xs) →
    (l.map fun q => (q.1, a.eval q.2)) = ((l.map fun q => a.eval q.2).zipIdx j).map (fun x => (x.2, x.1)) ∧ l.length = xs.length ∧
      ∀ (i : Nat) (x : PV), xs[i]? = some x → ∃ v, (l.map fun q => a.eval q.2)[i]? = some v ∧ RP w (Gd C s.rows m w f) x v
  | [], j, f, xs, hc => by
    simp [collectP] at hc
    obtain ⟨rfl, rfl⟩ := hc
    exact ⟨rfl, rfl, fun i x hx => by simp at hx⟩
  | (i, x) :: l, j, f, xs, hc => by
    simp only [collectP] at hc
    cases hb : Nat.beq i j with
    | false => rw [hb] at hc; simp at hc
    | true =>
      rw [hb] at hc
      simp only [cond_true] at hc
      have hij := Nat.eq_of_beq_eq_true hb
      subst hij
      split at hc
      · rename_i f1 p f' ps hx hr
        simp only [Option.some.injEq, Prod.mk.injEq] at hc
        obtain ⟨rfl, rfl⟩ := hc
        obtain ⟨h1, h2, h3⟩ := collect_vals h l (i + 1) f' ps hr
        refine ⟨by simp only [List.map_cons, List.zipIdx_cons]; rw [h1], by simp [h2], fun k y hy => ?_⟩
        have hv := h.get x
        rw [hx] at hv
        have hv := hv.pv_inv
        cases k with
        | zero =>
          simp at hy
          subst hy
          refine ⟨a.eval x, rfl, ?_⟩
          cases hsc : p.scal with
          | true => exact hv.scal_any hsc
          | false =>
            refine hv.mono fun b hb => ⟨?_, rfl⟩
            cases f1 with
            | false => simpa using hb
            | true =>
              cases f' with
              | false => simpa using hb.weak
              | true => simpa using hb
        | succ k =>
          simp only [List.getElem?_cons_succ] at hy
          obtain ⟨v, hv1, hv2⟩ := h3 k y hy
          refine ⟨v, by simpa using hv1, hv2.mono fun b hb => ⟨?_, rfl⟩⟩
          cases hff : (f1 || p.scal) && f' with
          | false => exact hb.weak
          | true =>
            simp only [Bool.and_eq_true] at hff
            rw [hff.2] at hb
            exact hb
      · simp at hc

/-- A slice literal. -/
theorem vo_buildSlice {T el e by' len : Nat} {d : PV} {parts : Array (Nat × Operand)} {f : Bool} {xs : List PV} (hI : ElInfo P T el e by' d) (ht : Nat.blt t s.n = true)
    (hp : collectP s.env 0 parts.toList = some (f, xs)) (hlen : xs.length = len) (hsmall : Nat.ble (len * e) 16777216 = true) (hfit : xs.all (fitsB e) = true)
    (next : VO P C ops rest Q ⟨s.n, (t, .ref s.rows.length) :: s.env, s.rows ++ [.own el e (some false) f xs]⟩) :
    VO P C ops (⟨some t, .buildSlice T len parts, ty, pos, af, none⟩ :: rest) Q s := by
  obtain ⟨hT, ⟨inf, z, hinf, hsz, hbytes, hz, hzs, hzr⟩, hdf, he⟩ := hI
  refine vo_value (s1 := { s with rows := s.rows ++ [.own el e (some false) f xs] }) (sv := .ref s.rows.length) ht (fun m a w hs => ?_) next
  obtain ⟨h1, h2, h3⟩ := collect_vals hs parts.toList 0 f xs hp
  let vals : List Value := parts.toList.map fun q => a.eval q.2
  have hvl : vals.length = len := by simp [vals, h2, hlen]
  have hfit' : ∀ (i : Nat) (x : PV), xs[i]? = some x → x.fits e := by
    intro i x hx
    rw [List.all_eq_true] at hfit
    exact fits_of (hfit x (List.mem_of_getElem? hx))
  have hvs : ∀ v ∈ vals, v.cells.size = e := by
    intro v hv
    obtain ⟨i, hi⟩ := List.getElem?_of_mem hv
    have hlt : i < xs.length := by rw [hlen, ← hvl]; exact (List.getElem?_eq_some_iff.1 hi).1
    have hx : xs[i]? = some xs[i] := List.getElem?_eq_getElem hlt
    obtain ⟨v', hv', hr⟩ := h3 i _ hx
    have : v = v' := by
      have e1 : vals[i]? = some v' := hv'
      rw [hi] at e1
      cases e1
      rfl
    rw [this, hr.cells.1]
    exact (hfit' i _ hx).1
  let cells : Array Value := (vals.flatMap fun v => v.cells.toList).toArray
  have hcells : ∀ k, (vals.flatMap fun v => v.cells.toList)[k]? = (vals[k / e]?).bind (fun v => v.cells[k % e]?) := Great.flat_get he vals hvs
  have hclen : (vals.flatMap fun v => v.cells.toList).length = len * e := by
    have : ∀ l : List Value, (∀ v ∈ l, v.cells.size = e) → (l.flatMap fun v => v.cells.toList).length = l.length * e := by
      intro l
      induction l with
      | nil => intro _; simp
      | cons v l ih =>
        intro hl
        rw [List.flatMap_cons, List.length_append, ih (fun u hu => hl u (List.mem_cons_of_mem _ hu))]
        simp only [Array.length_toList, List.length_cons, hl v List.mem_cons_self]
        rw [Nat.add_mul]
        omega
    rw [this vals hvs, hvl]
  have hrun : (execOp a.eval ⟨some t, .buildSlice T len parts, ty, pos, af, none⟩).run P w = .ok (.value (.slice (some ⟨w.heap.size, 0, none⟩) len len)) (w.alloc (.cells cells el)) := by
    have hpl : (parts.map fun (i, x) => (i, a.eval x)).toList = (vals.zipIdx 0).map fun x => (x.2, x.1) := by
      rw [Array.toList_map]
      exact h1
    by_cases h0 : len = 0
    · subst h0
      have hv0 : vals = [] := List.eq_nil_of_length_eq_zero hvl
      have hpn : (parts.map fun (i, x) => (i, a.eval x)).toList = [] := by rw [hpl, hv0]; rfl
      have hpn2 : parts.toList = [] := by
        have := congrArg List.length hpn
        simp at this
        simpa using this
      have hpn3 : parts = #[] := by simpa using hpn2
      have hc0 : cells = #[] := by simp [cells, hv0]
      subst hpn3
      rw [hc0]
      have hr0 : Array.range 0 = #[] := by apply Array.eq_empty_of_size_eq_zero; simp
      simp [execOp, Instr.buildSlice, run_underlying hT, sizeOf, typeInfo, hinf, Instr.fill, newRow, hr0]
    · have hf := Great.fill_whole he vals ((Array.range (len * e)).map (z.cells[· % z.cells.size]!)) hvs (by simp [hvl])
      have hle := Nat.le_of_ble_eq_true hsmall
      have hne : len * e ≠ 0 := by
        intro h
        rcases Nat.mul_eq_zero.1 h with h | h
        · exact h0 h
        · omega
      have := run_buildSlice (P := P) w T el len (parts.map fun (i, x) => (i, a.eval x)) cells inf z hT hinf hz (by rw [hsz]; omega) (by rw [hsz]; exact hne) (by rw [hsz, hpl]; exact hf)
      simp only [execOp, Sem.run_bind, this, Result.andThen_ok]
      rfl
  have hadd := hs.addRow (w' := w.alloc (.cells cells el)) (World.grownBy_alloc w _ none) (.own el e (some false) f xs) (.of <| .slice (some ⟨w.heap.size, 0, none⟩) len len)
    (fun b hb => by simp [MV.of, blk] at hb; omega) (fun hG => ?_)
  · refine ⟨_, _, _, hrun, hadd.1, ?_⟩
    have := RS.ref (w := w.alloc (.cells cells el)) (G := Gd C (s.rows ++ [.own el e (some false) f xs]) (updM m s.rows.length (.of <| .slice (some ⟨w.heap.size, 0, none⟩) len len)) (w.alloc (.cells cells el)))
      (m := updM m s.rows.length (.of <| .slice (some ⟨w.heap.size, 0, none⟩) len len)) (N := (s.rows ++ [Row.own el e (some false) f xs]).length) s.rows.length (by simp)
    rw [updM_same] at this
    exact this
  · subst hlen
    refine .own _ el e _ f xs (vals.flatMap fun v => v.cells.toList) ⟨hclen, .inr ⟨w.heap.size, xs.length, cells, rfl, Nat.zero_le _, heap_alloc_new w _, Nat.le_refl _, ?_, by simp only [cells, List.size_toArray]; exact hclen, ?_⟩⟩
      (fun h => by cases h) (fun _ h => by cases h) hfit' (fun i x j c hx hc => ?_)
    · have hle := Nat.le_of_ble_eq_true hsmall
      have := Nat.le_mul_of_pos_right xs.length he
      simp only [maxLen]
      omega
    · show List.take _ (vals.flatMap fun v => v.cells.toList) = _
      exact List.take_of_length_le (by rw [hclen]; exact Nat.le_refl _)
    · obtain ⟨v, hv, hr⟩ := h3 i x hx
      obtain ⟨u, hu, hp⟩ := hr.cells.2 j c hc
      have hj : j < e := by rw [← (hfit' i x hx).1]; exact (List.getElem?_eq_some_iff.1 hc).1
      refine ⟨u, ?_, hp.mono fun b hb => hG f b hb⟩
      have e1 : (i * e + j) / e = i := by rw [Nat.add_comm, Nat.add_mul_div_right _ _ he, Nat.div_eq_of_lt hj]; omega
      have e2 : (i * e + j) % e = j := by rw [Nat.add_comm, Nat.add_mul_mod_self_right]; exact Nat.mod_eq_of_lt hj
      rw [hcells, e1, e2]
      have : vals[i]? = some v := hv
      rw [this]
      exact hu

/-- A ghost step: a slot that holds a nil slice holds a row of the call's own that is empty. -/
theorem vo_own_nil {l : List Oper} (u : Nat) {T el e by' e0 : Nat} {d : PV} {f : Bool} (hI : ElInfo P T el e by' d) (hu : look s.env u = .pv f (.sl (some true) e0 []))
    (next : VO P C ops l Q ⟨s.n, (u, .ref s.rows.length) :: s.env, s.rows ++ [.own el e (some true) true []]⟩) : VO P C ops l Q s := by
  intro a w ⟨m, hs⟩
  have hv := hs.env u
  rw [hu] at hv
  have hv := hv.pv_inv
  have hval : a.tmps.getD u undef = .slice none 0 0 := by
    generalize a.tmps.getD u undef = v at hv
    cases hv with
    | nilsl => rfl
    | sl nl e xs a len cap f h => exact (h rfl).elim
  have hadd := hs.addRow (w' := w) ⟨rfl, rfl, rfl, Nat.le_refl _, fun _ _ _ => rfl⟩ (.own el e (some true) true []) (.of <| .slice none 0 0)
    (fun b hb => by simp [MV.of, blk] at hb) (fun hG => .own _ el e _ true [] [] (World.ownsRow_nil w 0 el e) (fun _ => rfl) (fun h => by cases h) (fun i x hx => by simp at hx) (fun i x j c hx => by simp at hx))
  refine next a w ⟨_, { hadd.1 with env := fun q => ?_ }⟩
  show RS _ _ _ _ (look ((u, .ref s.rows.length) :: s.env) q) _
  rw [look_cons]
  split
  · rename_i e
    subst e
    rw [hval]
    have := RS.ref (w := w) (G := Gd C (s.rows ++ [.own el e (some true) true []]) (updM m s.rows.length (.of <| .slice none 0 0)) w) (m := updM m s.rows.length (.of <| .slice none 0 0)) (N := (s.rows ++ [Row.own el e (some true) true []]).length) s.rows.length (by simp)
    rw [updM_same] at this
    exact this
  · exact hadd.1.env q

/-- A ghost step: a row is handed on; from now on nobody writes it. -/
theorem vo_expose {l : List Oper} (id : Nat) {el e : Nat} {nl : Option Bool} {f : Bool} {xs : List PV} (hnb : C.nb ≤ id) (hrow : s.rows[id]? = some (.own el e nl f xs))
    (next : VO P C ops l Q ⟨s.n, exposeE id (.pv f (.sl nl e xs)) s.env, (s.rows.map (Row.expose id (.pv f (.sl nl e xs)))).set id .dead⟩) : VO P C ops l Q s :=
  fun a w ⟨m, hs⟩ => next a w ⟨m, hs.expose hnb hrow⟩

theorem RP.weaken {w : World} {G : Nat → Prop} {nl : Option Bool} {e : Nat} {xs : List PV} {v : Value} (h : RP w G (.sl nl e xs) v) : RP w G (.sl none e xs) v := by
  cases h with
  | nilsl nl e h => exact .nilsl none e (by simp)
  | sl nl e xs a len cap f h hs hl hcap hg hw hc hr => exact .sl none e xs a len cap f (by simp) hs hl hcap hg hw hc hr

/-- A ghost step: a slot forgets whether its slice is nil. -/
theorem vo_weaken {l : List Oper} (u : Nat) {e : Nat} {nl : Option Bool} {f : Bool} {xs : List PV} (hu : look s.env u = .pv f (.sl nl e xs))
    (next : VO P C ops l Q ⟨s.n, (u, .pv f (.sl none e xs)) :: s.env, s.rows⟩) : VO P C ops l Q s := by
  intro a w ⟨m, hs⟩
  refine next a w ⟨m, { hs with env := fun q => ?_ }⟩
  show RS _ _ _ _ (look ((u, .pv f (.sl none e xs)) :: s.env) q) _
  rw [look_cons]
  split
  · rename_i e
    subst e
    have hv := hs.env q
    rw [hu] at hv
    exact .pv _ _ _ hv.pv_inv.weaken
  · exact hs.env q

/-- 'make' of n elements. -/
theorem vo_make {x y : Operand} {T el e by' : Nat} {d : PV} {f1 f2 : Bool} {k1 k2 : IntKind} {n : Int} (hI : ElInfo P T el e by' d) (ht : Nat.blt t s.n = true)
    (hx : getO s.env x = .pv f1 (.int k1 n)) (hy : getO s.env y = .pv f2 (.int k2 n)) (h0 : 0 ≤ n) (hby : by' * n.toNat ≤ 281474976710656) (hmx : n ≤ 9223372036854775807)
    (next : VO P C ops rest Q ⟨s.n, (t, .ref s.rows.length) :: s.env, s.rows ++ [.own el e (some false) true (List.replicate n.toNat d)]⟩) :
    VO P C ops (⟨some t, .makeSlice T x y, ty, pos, af, none⟩ :: rest) Q s := by
  obtain ⟨hT, ⟨inf, z, hinf, hsz, hbytes, hz, hzs, hzr⟩, hdf, he⟩ := hI
  refine vo_value (s1 := { s with rows := s.rows ++ [.own el e (some false) true (List.replicate n.toNat d)] }) (sv := .ref s.rows.length) ht (fun m a w hs => ?_) next
  obtain ⟨k, rfl⟩ := Int.eq_ofNat_of_zero_le h0
  simp only [Int.toNat_natCast] at *
  have e1 := hs.int hx
  have e2 := hs.int hy
  obtain ⟨w', hrun, hown, hg⟩ := run_make_full (P := P) (w := w) 0 T el inf z e hT hinf hz hsz k1 k2 k (by rw [hbytes]; exact hby) (by simp only [maxLen]; omega) (Nat.zero_le _)
  have hadd := hs.addRow (w' := w') hg (.own el e (some false) true (List.replicate k d)) (.of <| .slice (some ⟨w.heap.size, 0, none⟩) k k)
    (fun b hb => by simp [MV.of, blk] at hb; omega) (fun hG => ?_)
  · refine ⟨.slice (some ⟨w.heap.size, 0, none⟩) k k, w', _, by simp [execOp, e1, e2, hrun], hadd.1, ?_⟩
    have := RS.ref (w := w') (G := Gd C (s.rows ++ [.own el e (some false) true (List.replicate k d)]) (updM m s.rows.length (.of <| .slice (some ⟨w.heap.size, 0, none⟩) k k)) w')
      (m := updM m s.rows.length (.of <| .slice (some ⟨w.heap.size, 0, none⟩) k k)) (N := (s.rows ++ [Row.own el e (some false) true (List.replicate k d)]).length) s.rows.length (by simp)
    rw [updM_same] at this
    exact this
  · refine .own _ el e _ true _ (madeCells z.cells (k * e)).toList (by simpa using hown) (fun h => by cases h) (fun _ h => by cases h) (fun i x hx => ?_) (fun i x j c hx hc => ?_)
    · rw [List.getElem?_replicate] at hx
      split at hx
      · cases hx; exact hdf
      · cases hx
    · rw [List.getElem?_replicate] at hx
      split at hx
      · rename_i hi
        cases hx
        have hj : j < e := by rw [← hdf.1]; exact (List.getElem?_eq_some_iff.1 hc).1
        have hlt : i * e + j < k * e := by
          have := Nat.mul_le_mul_right e (show i + 1 ≤ k by omega)
          rw [Nat.add_mul] at this
          omega
        have e2 : (i * e + j) % e = j := by rw [Nat.add_comm, Nat.add_mul_mod_self_right]; exact Nat.mod_eq_of_lt hj
        obtain ⟨u, hu, hp⟩ := (hzr w' (Gd C (s.rows ++ [.own el e (some false) true (List.replicate k d)]) (updM m s.rows.length (.of <| .slice (some ⟨w.heap.size, 0, none⟩) k k)) w' true)).cells.2 j c hc
        refine ⟨u, ?_, hp⟩
        simp only [madeCells, Array.getElem?_toList, Array.getElem?_map, Array.getElem?_range, hlt, if_true, Option.map_some, hzs, e2]
        rw [← hu]
        have hjs : j < z.cells.size := by rw [hzs]; exact hj
        simp [hjs]
      · cases hx

end
end Go.Vl
