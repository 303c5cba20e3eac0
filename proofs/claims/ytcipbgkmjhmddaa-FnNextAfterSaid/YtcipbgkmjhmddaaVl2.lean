/- Part 2 of the texts that the proof of FnNextAfter is built on. -/
import Derived.Test.YtcipbgkmjhmddaaVl1
import Derived.Laws.StructEq
import Derived.MapKept
import Derived.Test.YtcipbgkmjhmddaaProg
import Derived.KernelRfl
import Derived.ProofKit
import Derived.OpenShut
import Derived.Below
import Derived.Deep.Matrix
import Derived.ChangeArms
import Derived.ChangeSame
/- Functions that hand back structs: the way in, and what is handed back. -/
namespace Go.Vl
set_option linter.unusedVariables false
set_option linter.unusedSimpArgs false
open Go.RowKit

/-- What a result holds at a function's end. -/
def resSV (s : St) : Nat × Option (Nat × Nat) → SV
  | (t, none) => look s.env t
  | (a, some _) => match look s.env a with
    | .ptr id 0 0 0 => match s.rows[id]? with
      | some (.var _ cs) => match collectC cs with
        | some (f, ps) => .pv f (.agg ps)
        | none => .any
      | _ => .any
    | _ => .any

def resVar : Nat × Option (Nat × Nat) → ResultVar
  | (t, none) => .tmp t
  | (a, some (T, _)) => .cell a T

/-- Is the result there? -/
def resOK (s : St) : Nat × Option (Nat × Nat) → Bool
  | (_, none) => true
  | (a, some (_, n)) => match look s.env a with
    | .ptr id 0 0 0 => match s.rows[id]? with
      | some (.var _ cs) => Nat.beq cs.length n && (collectC cs).isSome
      | _ => false
    | _ => false

/-- The types of the results that lie in memory. -/
def resT (P : Program) : Nat × Option (Nat × Nat) → Prop
  | (_, none) => True
  | (_, some (T, n)) => ∃ D inf, P.underlying T = some D ∧ D.isRow = true ∧ P.info? T = some inf ∧ inf.size = n

def resM (tmps : Array Value) : ResultVar → Sem Value
  | .tmp t => pure (tmps.getD t undef)
  | .cell a t => do loadVar t (← asAddr (tmps.getD a undef))

theorem results_eq (fn : Func) (tmps : Array Value) : results fn tmps = (do
  let vs ← fn.results.mapM (resM tmps)
  pure (if h : vs.size = 1 then vs[0] else .tuple vs)) := by
  unfold results
  congr 1

section
variable {P : Program}

theorem resTs1 {r1 : Nat × Option (Nat × Nat)} (h1 : resT P r1) : ∀ r ∈ [r1], resT P r := by simp [h1]
theorem resTs3 {r1 r2 r3 : Nat × Option (Nat × Nat)} (h1 : resT P r1) (h2 : resT P r2) (h3 : resT P r3) : ∀ r ∈ [r1, r2, r3], resT P r := by simp [h1, h2, h3]
/-- What is handed back at such a function's end: values alone; no new rows. -/
def retS (rs : List (Nat × Option (Nat × Nat))) (k : Nat) (R : List SV → List Row → Prop) (e : Go.Exit) (s : St) : Prop :=
  (e = .normal ∨ e = .ret) ∧ (k ≤ s.rows.length ∧ (rs.map (resSV s)).all (SV.bdd k) = true ∧ (s.rows.take k).all (Row.bdd k) = true ∧ rs.all (resOK s) = true) ∧ R (rs.map (resSV s)) (s.rows.take k)

end
end Go.Vl

/- Rows whose slices are their own: made, written, lent in part. -/
namespace Go.Vl
set_option linter.unusedVariables false
set_option linter.unusedSimpArgs false
open Go.RowKit

/-- No slice but the nil one. -/
def plainB : PV → Bool
  | .sl (some true) _ [] => true
  | p => p.scal

def plainX (xs : List PV) : Prop := ∀ x ∈ xs, ∀ c ∈ x.cells, plainB c = true
theorem plain_ints (l : List Int) : plainX (l.map intP) := by
  intro x hx c hc
  obtain ⟨n, _, rfl⟩ := List.mem_map.1 hx
  simp [PV.cells] at hc
  subst hc
  rfl
theorem plain_rep (n e : Nat) : plainX (List.replicate n (.sl (some true) e [])) := by
  intro x hx c hc
  rw [List.eq_of_mem_replicate hx] at hc
  simp [PV.cells] at hc
  subst hc
  rfl

theorem tp_plain {w : World} {G : Nat → Prop} {c : PV} {u : Value} (h : RP w G c u) (hp : plainB c = true) {S : Nat → Prop} (hS : ∀ b, ¬ S b) : TP w c u S := by
  cases c with
  | sl nl e xs =>
    have h0 : nl = some true ∧ xs = [] := by unfold plainB at hp; split at hp <;> simp_all [PV.scal]
    obtain ⟨rfl, rfl⟩ := h0
    cases h with
    | nilsl _ _ h =>
      have hSS : ∀ b, S b ↔ blk (.slice none 0 0) = some b ∨ ∃ q : Nat, (fun _ _ => False : Nat → Nat → Prop) q b := by
        intro b
        constructor
        · intro h; exact (hS b h).elim
        · rintro (h | ⟨_, h⟩)
          · simp [blk] at h
          · exact h.elim
      exact .sl 0 e (some true) [] _ [] (fun _ _ => False) S (World.ownsRow_nil w 0 0 e) (fun _ => rfl) (fun h => by cases h) (fun i x hx => by simp at hx) (fun i x j c u hx => by simp at hx) (fun _ _ _ h => h.elim) (fun _ _ h => h.elim) (fun _ _ _ h => h) hSS
    | sl nl e xs a len cap f h => exact (h rfl).elim
  | agg cs => simp [plainB, PV.scal] at hp
  | int k n => exact .scal _ _ S rfl (h.scal_any rfl) hS
  | bool b => exact .scal _ _ S rfl (h.scal_any rfl) hS
  | str b => exact .scal _ _ S rfl (h.scal_any rfl) hS
  | gone => simp [plainB, PV.scal] at hp
  | ifc t p => simp [plainB, PV.scal] at hp
  | nilifc => simp [plainB, PV.scal] at hp

theorem oneCell_cells {u : Value} (h : u.oneCell' = true) : u.cells.toList = [u] := by
  cases u <;> simp_all [Value.cells, Value.oneCell']

theorem TP.cells1 {w : World} {p : PV} {v : Value} {S : Nat → Prop} (h : TP w p v S) : p.cells = [p] := by
  cases h with
  | scal p v S hs => cases p <;> first | rfl | simp [PV.scal] at hs
  | sl => rfl
  | gone => rfl

theorem own_tp {w : World} {G : Bool → Nat → Prop} {m : Nat → MV} {N : Nat} {mv : MV} {t : TypeId} {e : Nat} {nl : Option Bool} {fr : Bool} {xs : List PV} (h : RowOK w G m N mv (.own t e nl fr xs)) (hp : plainX xs) :
    TP w (.sl nl e xs) mv.v mv.S ∧ RowOK w G m N mv (.tree t e nl none xs) := by
  cases h with
  | own v t e nl fr xs vs hown h1 h2 hw hr =>
    have key : ∀ (i : Nat) (x : PV) (j : Nat) (c : PV) (u : Value), xs[i]? = some x → x.cells[j]? = some c → vs[i * e + j]? = some u → TP w c u (fun _ => False) := by
      intro i x j c u hx hc hu
      obtain ⟨u', hu', hq⟩ := hr i x j c hx hc
      rw [hu] at hu'
      cases hu'
      exact tp_plain hq (hp x (List.mem_of_getElem? hx) c (List.mem_of_getElem? hc)) (fun _ h => h)
    have hS : ∀ b, (MV.of v).S b ↔ blk v = some b ∨ ∃ q : Nat, (fun _ _ => False : Nat → Nat → Prop) q b := fun b => ⟨.inl, fun h => h.elim id (fun ⟨_, h⟩ => h.elim)⟩
    exact ⟨.sl t e nl xs v vs (fun _ _ => False) _ hown h1 h2 hw key (fun _ _ _ h => h.elim) (fun _ _ h => h.elim) (fun _ _ _ h => h) hS,
      .tree (MV.of v) t e nl none xs vs (fun _ _ => False) hown h1 h2 hw (fun i x j c u hx hc hu => .inl (key i x j c u hx hc hu)) (fun _ _ _ h => h.elim) (fun _ _ h => h.elim) (fun _ _ _ h => h) hS (fun _ _ h => by cases h)⟩

section
variable {P : Program} {C : Ctx} {Q : Go.Exit → St → Prop} {s : St} {ops : Array Oper} {rest : List Oper} {t : Nat} {ty : TypeId} {pos : String} {af : Array Edge}

/-- A row without slices in it is one whose slices are its own. -/
theorem SimM.totree {m : Nat → MV} {a : Act} {w : World} (hs : SimM C s m a w) (id : Nat) {el e : Nat} {nl : Option Bool} {f : Bool} {xs : List PV} (hrow : s.rows[id]? = some (.own el e nl f xs)) (hp : plainX xs) :
    SimM C ⟨s.n, s.env, s.rows.set id (.tree el e nl none xs)⟩ m a w :=
  hs.storeRow (w' := w) (bo := none) ⟨_, hrow, rfl⟩ (fun _ e => by cases e) ⟨rfl, rfl, rfl, Nat.le_refl _, fun _ _ _ => rfl⟩ _ (fun hG =>
    RowOK.mono hG (Nat.le_refl _) (fun _ _ => rfl) (own_tp (hs.rows id _ hrow) hp).2 (fun _ _ _ => rfl))

theorem vc_totree {code : Code} (id : Nat) {el e : Nat} {nl : Option Bool} {f : Bool} {xs : List PV} (hrow : s.rows[id]? = some (.own el e nl f xs)) (hp : plainX xs)
    (next : VC P C code Q ⟨s.n, s.env, s.rows.set id (.tree el e nl none xs)⟩) : VC P C code Q s := fun a w ⟨m, hs⟩ => next a w ⟨m, hs.totree id hrow hp⟩
theorem RS.killV1 {w w' : World} {G G' : Bool → Nat → Prop} {m m' : Nat → MV} {N id : Nat} (hG : ∀ fr b, G fr b → G' fr b ∧ w'.heap[b]? = w.heap[b]?)
    (hm : ∀ i, i ≠ id → (m' i).v = (m i).v) {sv : SV} {v : Value} (h : RS w G m N sv v) : RS w' G' m' N (sv.kill1 id) v := by
  cases h with
  | any v => exact .any v
  | val u => exact .val _
  | und => exact .und
  | pv fr p v h => exact .pv fr p v (h.mono (hG fr))
  | ref i hi =>
    simp only [SV.kill1]
    split
    · exact .any _
    · rename_i hne; rw [← hm i hne]; exact .ref i hi
  | ptr i e k o b hi hb =>
    simp only [SV.kill1]
    split
    · exact .any _
    · rename_i hne; exact .ptr i e k o b hi (by rw [hm i hne]; exact hb)
  | adr fr cs a f hsp hg h1 hc hr =>
    refine .adr fr cs a f hsp (fun hne => (hG fr _ (hg hne)).1) h1 (fun j c hj => ?_) (fun j c hj => (hr j c hj).mono (hG fr))
    have hne : cs ≠ [] := by intro h0; subst h0; simp at hj
    have := (hG fr _ (hg hne)).2
    rw [← hc j c hj]
    simp [World.cell?, this]
  | tup vs us hl h => exact .any _
  | ag vs us hl h h1 => exact .any _
  | sub i e l h c _ hid hs =>
    simp only [SV.kill1]
    split
    · exact .any _
    · rename_i hne; exact .sub i e l h c v hid (by rw [hm i hne]; exact hs)

theorem RS.killV {w w' : World} {G G' : Bool → Nat → Prop} {m m' : Nat → MV} {N id : Nat} (hG : ∀ fr b, G fr b → G' fr b ∧ w'.heap[b]? = w.heap[b]?)
    (hm : ∀ i, i ≠ id → (m' i).v = (m i).v) {sv : SV} {v : Value} (h : RS w G m N sv v) : RS w' G' m' N (sv.kill id) v := by
  cases h with
  | any v => exact .any v
  | val u => exact .val _
  | und => exact .und
  | pv fr p v h => exact .pv fr p v (h.mono (hG fr))
  | ref i hi =>
    simp only [SV.kill]
    split
    · exact .any _
    · rename_i hne; rw [← hm i hne]; exact .ref i hi
  | ptr i e k o b hi hb =>
    simp only [SV.kill]
    split
    · exact .any _
    · rename_i hne; exact .ptr i e k o b hi (by rw [hm i hne]; exact hb)
  | adr fr cs a f hsp hg h1 hc hr =>
    refine .adr fr cs a f hsp (fun hne => (hG fr _ (hg hne)).1) h1 (fun j c hj => ?_) (fun j c hj => (hr j c hj).mono (hG fr))
    have hne : cs ≠ [] := by intro h0; subst h0; simp at hj
    have := (hG fr _ (hg hne)).2
    rw [← hc j c hj]
    simp [World.cell?, this]
  | tup vs us hl h => exact .any _
  | ag vs us hl h h1 =>
    refine .ag _ us (by simpa using hl) (fun j c u hc hu => ?_) h1
    simp only [List.getElem?_map, Option.map_eq_some_iff] at hc
    obtain ⟨c', hc', rfl⟩ := hc
    exact (h j c' u hc' hu).killV1 hG hm
  | sub i e l h c _ hid hs =>
    simp only [SV.kill]
    split
    · exact .any _
    · rename_i hne; exact .sub i e l h c v hid (by rw [hm i hne]; exact hs)

theorem RowOK.killV {w w' : World} {G G' : Bool → Nat → Prop} {m m' : Nat → MV} {N id : Nat} {v : MV} {r : Row} (hG : ∀ fr b, G fr b → G' fr b ∧ w'.heap[b]? = w.heap[b]?)
    (hm : ∀ i, i ≠ id → (m' i).v = (m i).v) (h : RowOK w G m N v r) (hb : r.live = true → ∀ b, v.S b → w'.heap[b]? = w.heap[b]?) : RowOK w' G' m' N v (r.kill id) := by
  cases h with
  | dead v => exact .dead v
  | own v t e nl fr xs vs hown h1 h2 hw hr =>
    refine .own v t e nl fr xs vs (ownsRow_blk hown (hb rfl)) h1 h2 hw (fun i x j c hx hc => ?_)
    obtain ⟨u, hu, hp⟩ := hr i x j c hx hc
    exact ⟨u, hu, hp.mono (hG fr)⟩
  | var b t cs cur hbk hl hr h1 =>
    refine .var b t _ cur (by rw [hb rfl b rfl]; exact hbk) (by simpa using hl) (fun j c u hc hu => ?_) h1
    simp only [List.getElem?_map, Option.map_eq_some_iff] at hc
    obtain ⟨c', hc', rfl⟩ := hc
    exact (hr j c' u hc' hu).killV hG hm
  | gh mv us cs hl h =>
    refine .gh _ us _ (by simpa using hl) (fun j c u hc hu => ?_)
    simp only [List.getElem?_map, Option.map_eq_some_iff] at hc
    obtain ⟨c', hc', rfl⟩ := hc
    exact (h j c' u hc' hu).killV hG hm
  | mp b g es clock hbk hm' => exact .mp b g es clock (by rw [hb rfl b rfl]; exact hbk) hm'
  | tree mv t e nl h xs vals Sf hown h1 h2 hw hr hd hn hz hS hkn =>
    exact .tree _ t e nl h xs vals Sf (ownsRow_blk hown fun b h => hb rfl b ((hS b).2 (.inl h))) h1 h2 hw
      (fun i x j c u hx hc hu => (hr i x j c u hx hc hu).mono fun b h => hb rfl b ((hS b).2 (.inr ⟨_, h⟩))) hd hn hz hS hkn

/-- A row takes another one in. -/
theorem SimM.absorb {m : Nat → MV} {a : Act} {w w' : World} (h : SimM C s m a w) {id j : Nat} (hne : id ≠ j) (hid : liveAt s.rows id) (hj : liveAt s.rows j) (hnb : C.nb ≤ id) (hnj : C.nb ≤ j)
    {b0 : Nat} (hb0 : (m id).S b0) (hg : w.grownBy w' (some b0)) (S' : Nat → Prop) (hS' : ∀ b, S' b → (m id).S b ∨ (m j).S b) (r : Row)
    (hr : (∀ fr b, Gd C s.rows m w fr b → Gd C (((s.rows.map (Row.kill j)).set j .dead).set id r) (updM m id ⟨(m id).v, S'⟩) w' fr b ∧ w'.heap[b]? = w.heap[b]?) →
      RowOK w' (Gd C (((s.rows.map (Row.kill j)).set j .dead).set id r) (updM m id ⟨(m id).v, S'⟩) w') (updM m id ⟨(m id).v, S'⟩) s.rows.length ⟨(m id).v, S'⟩ r) :
    SimM C ⟨s.n, killE j s.env, ((s.rows.map (Row.kill j)).set j .dead).set id r⟩ (updM m id ⟨(m id).v, S'⟩) a w' := by
  have hidl : id < s.rows.length := by
    obtain ⟨q, hq, _⟩ := hid
    exact (List.getElem?_eq_some_iff.1 hq).1
  have hjl : j < s.rows.length := by
    obtain ⟨q, hq, _⟩ := hj
    exact (List.getElem?_eq_some_iff.1 hq).1
  have hlive : ∀ i, liveAt (((s.rows.map (Row.kill j)).set j .dead).set id r) i → i ≠ j ∧ liveAt s.rows i := by
    intro i ⟨q, hq, hv⟩
    rw [List.getElem?_set] at hq
    split at hq
    · rename_i e; subst e; exact ⟨hne, hid⟩
    · rw [List.getElem?_set] at hq
      split at hq
      · simp [hjl] at hq; subst hq; cases hv
      · rename_i e; exact ⟨Ne.symm e, liveAt_kill ⟨q, hq, hv⟩⟩
  have hmv : ∀ i, (updM m id ⟨(m id).v, S'⟩ i).v = (m i).v := by
    intro i
    by_cases e : i = id
    · subst e; rw [updM_same]
    · rw [updM_ne _ _ e]
  have hSof : ∀ i b, i ≠ j → liveAt s.rows i → (updM m id ⟨(m id).v, S'⟩ i).S b → ∃ k, liveAt s.rows k ∧ (m k).S b ∧ (k = i ∨ (i = id ∧ k = j)) := by
    intro i b hij hl hb
    by_cases e : i = id
    · subst e
      rw [updM_same] at hb
      rcases hS' b hb with h1 | h1
      · exact ⟨i, hl, h1, .inl rfl⟩
      · exact ⟨j, hj, h1, .inr ⟨rfl, rfl⟩⟩
    · rw [updM_ne _ _ e] at hb
      exact ⟨i, hl, hb, .inl rfl⟩
  have hG : ∀ fr b, Gd C s.rows m w fr b → Gd C (((s.rows.map (Row.kill j)).set j .dead).set id r) (updM m id ⟨(m id).v, S'⟩) w' fr b ∧ w'.heap[b]? = w.heap[b]? := by
    refine Gd.step (fun b => b = b0) hg.size (fun k hk hn => hg.block k hk (fun e => hn (Option.some.inj e))) (fun k hk => ⟨id, hid, by rw [hk]; exact hb0⟩) (fun b _ ⟨i, hl, hbk⟩ => ?_)
    obtain ⟨h1, h2⟩ := hlive i hl
    obtain ⟨k, h3, h4, _⟩ := hSof i b h1 h2 hbk
    exact ⟨k, h3, h4⟩
  exact {
    defs := h.defs
    size := h.size
    os := hg.os.trans h.os
    tape := hg.tape.trans h.tape
    output := hg.output.trans h.output
    hsz := Nat.le_trans h.hsz hg.size
    old := fun k hk hn => (hg.block k (by have := h.hsz; omega) (fun e => by have := h.newb id b0 hnb hid hb0; cases e; omega)).trans (h.old k hk hn)
    bor := fun i hi => by rw [updM_ne _ _ (by omega)]; exact h.bor i hi
    nbl := by have := h.nbl; simp; omega
    newb := fun i b hi hl hbk => by
      obtain ⟨h1, h2⟩ := hlive i hl
      obtain ⟨k, h3, h4, h5⟩ := hSof i b h1 h2 hbk
      exact h.newb k b (by rcases h5 with rfl | ⟨_, rfl⟩ <;> omega) h3 h4
    dist := fun i1 i2 b h1 h2 hb1 hb2 => by
      obtain ⟨a1, a2⟩ := hlive i1 h1
      obtain ⟨c1, c2⟩ := hlive i2 h2
      obtain ⟨k1, k2, k3, k4⟩ := hSof i1 b a1 a2 hb1
      obtain ⟨l1, l2, l3, l4⟩ := hSof i2 b c1 c2 hb2
      have e := h.dist k1 l1 b k2 l2 k3 l3
      rcases k4 with rfl | ⟨rfl, rfl⟩ <;> rcases l4 with rfl | ⟨rfl, rfl⟩
      · exact e
      · exact absurd e a1
      · exact absurd e.symm c1
      · rfl
    rows := fun i q hq => by
      change (((s.rows.map (Row.kill j)).set j .dead).set id r)[i]? = some q at hq
      have hlen : (((s.rows.map (Row.kill j)).set j .dead).set id r).length = s.rows.length := by simp
      show RowOK w' _ _ (((s.rows.map (Row.kill j)).set j .dead).set id r).length _ q
      rw [hlen]
      rw [List.getElem?_set] at hq
      split at hq
      · rename_i e
        subst e
        simp [hidl] at hq
        subst hq
        rw [updM_same]
        exact hr hG
      · rename_i e
        rw [List.getElem?_set] at hq
        split at hq
        · simp [hjl] at hq; subst hq; exact .dead _
        · rename_i e2
          rw [getElem?_killRows] at hq
          simp only [Option.map_eq_some_iff] at hq
          obtain ⟨q', hq', rfl⟩ := hq
          rw [updM_ne _ _ (Ne.symm e)]
          exact RowOK.killV hG (fun k _ => hmv k) (h.rows i q' hq') (fun hd b hbk => hg.block b (h.lt ⟨q', hq', hd⟩ hbk) (fun eb => e (h.dist id i b hid ⟨q', hq', hd⟩ (by cases eb; exact hb0) hbk)))
    env := fun u => by
      show RS w' _ _ (((s.rows.map (Row.kill j)).set j .dead).set id r).length (look (killE j s.env) u) _
      have hlen : (((s.rows.map (Row.kill j)).set j .dead).set id r).length = s.rows.length := by simp
      rw [hlen, look_killE]
      exact (h.env u).killV hG (fun k _ => hmv k) }

/-- A row of the call's own goes into a place of a row whose slices are its own. -/
theorem vo_store_tree {x y : Operand} {T id j R i : Nat} {nl : Option Bool} {h : Option (Nat × Option Value)} {xs : List PV} {p : PV} {rj : Row} {inf : TypeInfo} (hx : getO s.env x = .ptr id 1 i 0) (hrow : s.rows[id]? = some (.tree R 1 nl h xs))
    (hh : h = none ∨ ∃ z, h = some (i, z)) (hy : getO s.env y = .ref j) (hrj : s.rows[j]? = some rj) (hlj : rj.live = true) (hp : p.fits 1) (hch : ∀ w G m N mv, RowOK w G m N mv rj → TP w p mv.v mv.S)
    (hne : Nat.beq id j = false) (hnb : C.nb ≤ id) (hnj : C.nb ≤ j) (hinf : P.info? T = some inf) (hsz : inf.size = 1) (hi : i < xs.length)
    (next : VO P C ops rest Q ⟨s.n, killE j s.env, ((s.rows.map (Row.kill j)).set j .dead).set id (.tree R 1 nl none (xs.set i p))⟩) :
    VO P C ops (⟨none, .store T x y, ty, pos, af, none⟩ :: rest) Q s := by
  refine vo_unit (s1 := ⟨s.n, killE j s.env, ((s.rows.map (Row.kill j)).set j .dead).set id (.tree R 1 nl none (xs.set i p))⟩) (fun m a w hs => ?_) next
  have hne : id ≠ j := fun e => by subst e; rw [Nat.beq_refl] at hne; cases hne
  obtain ⟨b, hv, hb, hid⟩ := hs.ptr hx
  obtain ⟨hvy, hjl⟩ := hs.row hy
  have hTj := hch _ _ _ _ _ (hs.rows j _ hrj)
  have hone := hTj.oneCell
  have hlid : liveAt s.rows id := ⟨_, hrow, rfl⟩
  have hljv : liveAt s.rows j := ⟨_, hrj, hlj⟩
  have hR := hs.rows id _ hrow
  have hdist := hs.dist
  generalize hmv : m id = v at *
  cases hR with
  | tree mv t' e nl h xs vals Sf hown h1 h2 hw hr hd hn hz hS hkn =>
    rcases hown.2 with ⟨e0, hn0⟩ | ⟨g, cap, cur, e0, _, hheap, hle, hmx, hcs, htk⟩
    · omega
    · have hgb : b = g := by rw [e0] at hb; simpa [blk] using hb.symm
      subst hgb
      have hblk : blk v.v = some b := by rw [e0]; rfl
      have hcur : i < cur.size := by rw [hcs]; omega
      have hcell : w.cell? ⟨b, i, none⟩ = some cur[i] := by
        rw [cell_of_row w b _ cur R (0, 0) hheap]; exact Array.getElem?_eq_getElem hcur
      have hfz : w.frozen? ⟨b, i, none⟩ = false := by simp [World.frozen?, hheap]
      have hcells : (m j).v.cells.toList = [(m j).v] := oneCell_cells hone
      have hcs1 : (m j).v.cells.size = 1 := by
        have := congrArg List.length hcells
        simpa using this
      let w' := w.setCell ⟨b, i, none⟩ (m j).v
      have hst : (store (⟨b, i, none⟩ : Addr) (m j).v).run P w = .ok () w' := by
        rw [run_store P w _ _ _ hone, hcell]
        simp [hfz, w']
      have hheap' : w'.heap[b]? = some (.cells (cur.setIfInBounds i (m j).v) R (0, 0)) := heap_setCell_same w b i cur R _ hheap
      have hoth : ∀ k, k ≠ b → w'.heap[k]? = w.heap[k]? := fun k hk => heap_setCell_other w ⟨b, i, none⟩ k _ (fun e => hk e)
      have hvl : vals.length = xs.length := by have := hown.1; omega
      have hSfb : ∀ q b', Sf q b' → b' ≠ b := fun q b' h e => hn q b' h (by rw [e]; exact hblk)
      have hjb : ∀ b', (m j).S b' → b' ≠ b := fun b' h e => hne (hdist id j b' hlid hljv (by rw [hmv]; exact (hS b').2 (.inl (by rw [e]; exact hblk))) h)
      let Sf' : Nat → Nat → Prop := fun q b' => if q = i then (m j).S b' else Sf q b'
      let S' : Nat → Prop := fun b' => blk v.v = some b' ∨ ∃ q, Sf' q b'
      have hg : w.grownBy w' (some b) := ⟨rfl, rfl, rfl, by simp [w', World.setCell], fun k _ hk => hoth k (fun e => hk (by rw [e]))⟩
      have hab := hs.absorb (w' := w') hne hlid hljv hnb hnj (b0 := b) (by rw [hmv]; exact (hS b).2 (.inl hblk)) hg S' (fun b' hb' => by
        rw [hmv]
        rcases hb' with h3 | ⟨q, h3⟩
        · exact .inl ((hS b').2 (.inl h3))
        · simp only [Sf'] at h3
          split at h3
          · exact .inr h3
          · exact .inl ((hS b').2 (.inr ⟨q, h3⟩))) (.tree R 1 nl none (xs.set i p)) (fun hG => by
        rw [hmv]
        refine .tree ⟨v.v, S'⟩ R 1 nl none (xs.set i p) (vals.set i (m j).v) Sf' ?_ h1 h2 ?_ ?_ ?_ ?_ ?_ (fun b' => Iff.rfl) (fun _ _ h => by cases h)
        · refine ⟨by simp; omega, .inr ⟨b, cap, _, by rw [List.length_set]; exact e0, Nat.zero_le _, hheap', by rw [List.length_set]; exact hle, hmx, by simp [hcs], ?_⟩⟩
          rw [List.length_set, Array.toList_setIfInBounds, List.take_set, htk]
        · intro k y hy
          rw [List.getElem?_set] at hy
          split at hy
          · cases hy; exact hp
          · exact hw k y hy
        · intro k y jj c u hy hc hu
          rw [List.getElem?_set] at hy
          have hjj : jj = 0 := by
            have hf : y.fits 1 := by
              split at hy
              · cases hy; exact hp
              · exact hw k y hy
            have := (List.getElem?_eq_some_iff.1 hc).1
            rw [hf.1] at this; omega
          subst hjj
          simp only [Nat.mul_one, Nat.add_zero] at hu ⊢
          rw [List.getElem?_set] at hu
          split at hy
          · rename_i eki
            subst eki
            · cases hy
              rw [if_pos rfl, if_pos (by omega)] at hu
              cases hu
              have hc1 : c = p := by
                rw [hTj.cells1] at hc
                simpa using hc.symm
              subst hc1
              refine .inl ?_
              have hSi : (fun b' => Sf' i b') = (m j).S := by funext b'; simp [Sf']
              show TP w' c (m j).v (fun b' => Sf' i b')
              rw [hSi]
              exact hTj.mono fun b' h => hoth b' (hjb b' h)
          · rename_i eki
            rw [if_neg eki] at hu
            have hSk : (fun b' => Sf' k b') = Sf k := by funext b'; simp [Sf', Ne.symm eki]
            show CellOK w' none k c u (fun b' => Sf' k b')
            rw [hSk]
            have h3 := hr k y 0 c u hy hc (by simpa using hu)
            simp only [Nat.mul_one, Nat.add_zero] at h3
            refine .inl ?_
            rcases h3 with h3 | ⟨h3, _⟩
            · exact h3.mono fun b' h => hoth b' (hSfb k b' h)
            · rcases hh with rfl | ⟨z, rfl⟩
              · cases h3
              · cases h3; exact absurd rfl eki
        · intro q q' b' h3 h4
          simp only [Sf'] at h3 h4
          split at h3 <;> split at h4
          · omega
          · exact (hne (hdist j id b' hljv hlid h3 (by rw [hmv]; exact (hS b').2 (.inr ⟨q', h4⟩))).symm).elim
          · exact (hne (hdist j id b' hljv hlid h4 (by rw [hmv]; exact (hS b').2 (.inr ⟨q, h3⟩))).symm).elim
          · exact hd q q' b' h3 h4
        · intro q b' h3 h4
          simp only [Sf'] at h3
          split at h3
          · exact hjb b' h3 (by rw [hblk] at h4; exact (Option.some.inj h4).symm)
          · exact hn q b' h3 h4
        · intro q b' h3 h4
          simp only [Sf'] at h4
          rw [List.length_set] at h3
          split at h4
          · omega
          · exact hz q b' h3 h4)
      refine ⟨w', _, ?_, hab⟩
      have hadd : (⟨b, i, none⟩ : Addr).add 0 = ⟨b, i, none⟩ := rfl
      simp only [Nat.mul_one, Nat.add_zero] at hv
      simp [execOp, Instr.storeAt, hv, hvy, Instr.sureAddr, storeVar, sizeOf, typeInfo, hinf, hsz, hcs1, hcells, storeCells, hadd, hst]
end
end Go.Vl

/- A part of a row whose slices are its own is lent to a function, which may write it. -/
namespace Go.Vl
set_option linter.unusedVariables false
set_option linter.unusedSimpArgs false
open Go.RowKit

section
variable {P : Program} {C : Ctx} {Q : Go.Exit → St → Prop} {s : St} {ops : Array Oper} {rest : List Oper} {t : Nat} {ty : TypeId} {pos : String} {af : Array Edge}

/-- A slice in such a row is read: the row remembers what its cell holds. -/
theorem vo_load_sub {x : Operand} {T id R i : Nat} {nl : Option Bool} {xs : List PV} {D : TypeDesc} (ht : Nat.blt t s.n = true) (hx : getO s.env x = .ptr id 1 i 0) (hrow : s.rows[id]? = some (.tree R 1 nl none xs))
    (hT : P.underlying T = some D) (hD : D.isRow = false) (hi : i < xs.length)
    (next : ∀ u : Value, VO P C ops rest Q ⟨s.n, (t, .val u) :: s.env, s.rows.set id (.tree R 1 nl (some (i, some u)) xs)⟩) : VO P C ops (⟨some t, .load T x, ty, pos, af, none⟩ :: rest) Q s := by
  intro a w ⟨m, hs⟩
  obtain ⟨b, hv, hb, hid⟩ := hs.ptr hx
  have hlid : liveAt s.rows id := ⟨_, hrow, rfl⟩
  have hR := hs.rows id _ hrow
  have key : ∃ u, w.cell? ⟨b, i, none⟩ = some u ∧ RowOK w (Gd C s.rows m w) m s.rows.length (m id) (.tree R 1 nl (some (i, some u)) xs) := by
    generalize m id = v at *
    cases hR with
    | tree mv t' e nl h xs vals Sf hown h1 h2 hw hr hd hn hz hS hkn =>
      rcases hown.2 with ⟨e0, hn0⟩ | ⟨g, cap, cur, e0, _, hheap, hle, hmx, hcs, htk⟩
      · omega
      · have hgb : b = g := by rw [e0] at hb; simpa [blk] using hb.symm
        subst hgb
        have hvl : vals.length = xs.length := by have := hown.1; omega
        have hu : vals[i]? = some vals[i] := List.getElem?_eq_getElem (by omega)
        refine ⟨vals[i], ?_, .tree _ R 1 nl _ xs vals Sf hown h1 h2 hw (fun k y j c u hy hc hu => .inl (hr k y j c u hy hc hu).tp) hd hn hz hS (fun q u h => by cases h; exact hu)⟩
        rw [cell_of_row w b _ cur R (0, 0) hheap, ← Array.getElem?_toList]
        rw [← hu, ← htk, List.getElem?_take, if_pos (by omega)]
  obtain ⟨u, hcell, hRu⟩ := key
  have hs2 : SimM C ⟨s.n, s.env, s.rows.set id (.tree R 1 nl (some (i, some u)) xs)⟩ m a w :=
    hs.storeRow (w' := w) (bo := none) hlid (fun _ e => by cases e) ⟨rfl, rfl, rfl, Nat.le_refl _, fun _ _ _ => rfl⟩ _ (fun hG => RowOK.mono hG (Nat.le_refl _) (fun _ _ => rfl) hRu (fun _ _ _ => rfl))
  refine wpList_plain rfl fun K hK => ?_
  unfold Oper.wp
  have hrun : (execOp a.eval ⟨some t, .load T x, ty, pos, af, none⟩).run P w = .ok (.value u) w := by
    have hagg : (isAgg T).run P w = .ok false w := by
      cases D <;> simp_all [isAgg, run_underlying hT]
    simp only [Nat.mul_one, Nat.add_zero] at hv
    simp [execOp, Instr.loadAt, hv, Instr.sureAddr, loadVar, hagg, load, Sem.run, hcell]
  rw [hrun, Oper.upon_value]
  exact hK _ _ (next u _ _ ⟨m, hs2.put (blt_lt ht) (.val u)⟩)

def SV.isScal : SV → Bool
  | .pv _ p => p.scal
  | _ => false

end
end Go.Vl
namespace Go.Vl
theorem TP.weak {w : World} {nl : Option Bool} {e : Nat} {xs : List PV} {v : Value} {S : Nat → Prop} (h : TP w (.sl nl e xs) v S) : TP w (.sl none e xs) v S := by
  cases h with
  | scal _ _ _ hsc => simp [PV.scal] at hsc
  | sl t e nl xs v vals Sf S hown h1 h2 hw hr hd hn hz hS => exact .sl t e none xs v vals Sf S hown (fun h => by cases h) (fun h => by cases h) hw hr hd hn hz hS

/-- Numbers that go up one by one. -/
def markL (k : Int) (n : Nat) : List Int := (List.range n).map (fun (j : Nat) => k + (j : Int))
theorem row1_eqT {el : TypeId} {e : Nat} {nl : Option Bool} {h : Option (Nat × Option Value)} {xs ys : List PV} (hh : xs = ys) : [Row.tree el e nl h xs] = [Row.tree el e nl h ys] := by rw [hh]
end Go.Vl

/- 'copy' of a whole slice; a slice held against nil; ghost steps on slots. -/
namespace Go.Vl
set_option linter.unusedVariables false
set_option linter.unusedSimpArgs false
open Go.RowKit

section
variable {P : Program} {C : Ctx} {Q : Go.Exit → St → Prop} {s : St} {ops : Array Oper} {rest : List Oper} {t : Nat} {ty : TypeId} {pos : String} {af : Array Edge}

/-- A ghost step: a slot forgets whether its slice is nil. -/
theorem vc_weaken {code : Code} (u : Nat) {e : Nat} {nl : Option Bool} {f : Bool} {xs : List PV} (hu : look s.env u = .pv f (.sl nl e xs))
    (next : VC P C code Q ⟨s.n, (u, .pv f (.sl none e xs)) :: s.env, s.rows⟩) : VC P C code Q s := by
  intro a w ⟨m, hs⟩
  refine next a w ⟨m, { hs with env := fun q => ?_ }⟩
  show RS _ _ _ _ (look ((u, .pv f (.sl none e xs)) :: s.env) q) _
  rw [look_cons]
  split
  · rename_i e
    subst e
    have hv := hs.env q
    rw [hu] at hv
    exact .pv _ _ _ hv.pv_inv.weaken
  · exact hs.env q

/-- A ghost step: a slot forgets that its value is new. -/
theorem vo_flag {l : List Oper} (u : Nat) {f : Bool} {p : PV} (hu : look s.env u = .pv f p)
    (next : VO P C ops l Q ⟨s.n, (u, .pv false p) :: s.env, s.rows⟩) : VO P C ops l Q s := by
  intro a w ⟨m, hs⟩
  refine next a w ⟨m, { hs with env := fun q => ?_ }⟩
  show RS _ _ _ _ (look ((u, .pv false p) :: s.env) q) _
  rw [look_cons]
  split
  · rename_i e
    subst e
    have hv := hs.env q
    rw [hu] at hv
    exact .pv _ _ _ (hv.pv_inv.mono fun b hb => ⟨hb.weak, rfl⟩)
  · exact hs.env q

/-- A slice held against the literal nil. -/
theorem vo_eqnil {x : Operand} {T T2 el : TypeId} {f : Bool} {nl : Option Bool} {e : Nat} {xs : List PV} (ht : Nat.blt t s.n = true) (hx : getO s.env x = .pv f (.sl nl e xs)) (hT : P.underlying T = some (.slice el))
    (next : ∀ b : Bool, (b = true → xs = []) → (nl = some true → b = true) → (nl = some false → b = false) → VO P C ops rest Q (s.put t (.pv true (.bool b)))) :
    VO P C ops (⟨some t, .binOp .eql T x (.const (.slice none 0 0)) T2, ty, pos, af, none⟩ :: rest) Q s := by
  intro a w ⟨m, hs⟩
  have hv := hs.get x
  rw [hx] at hv
  have hv := hv.pv_inv
  have key : ∃ b : Bool, (b = true → xs = []) ∧ (nl = some true → b = true) ∧ (nl = some false → b = false) ∧ (execOp a.eval ⟨some t, .binOp .eql T x (.const (.slice none 0 0)) T2, ty, pos, af, none⟩).run P w = .ok (.value (.bool b)) w := by
    have hrun : ∀ (o : Option Addr) (l c : Nat), a.eval x = .slice o l c → (execOp a.eval ⟨some t, .binOp .eql T x (.const (.slice none 0 0)) T2, ty, pos, af, none⟩).run P w = .ok (.value (.bool o.isNone)) w := by
      intro o l c e
      have hg : (eqGuard .eql T x (.const (.slice none 0 0)) (.slice o l c) (.slice none 0 0)).run P w = .ok () w := rfl
      have heq : (Op.equal T (.slice o l c) (.slice none 0 0)).run P w = .ok o.isNone w := by
        show (Op.equalIn (9999 + 1) T (.slice o l c) (.slice none 0 0)).run P w = _
        unfold Op.equalIn
        cases o <;> simp [run_underlying hT]
      have hb : (binOp .eql T (.slice o l c) (.slice none 0 0)).run P w = .ok (.bool o.isNone) w := by
        show (do pure (Value.bool (← Op.equal T (.slice o l c) (.slice none 0 0))) : Sem Value).run P w = _
        simp [heq]
      have e3 : a.eval (.const (.slice none 0 0)) = .slice none 0 0 := rfl
      simp only [execOp, e, e3]
      simp [hg, hb]
    generalize hav : a.eval x = v at *
    cases hv with
    | nilsl nl e hn => exact ⟨true, fun _ => rfl, fun _ => rfl, fun h => (hn h).elim, hrun none 0 0 rfl⟩
    | sl nl e xs ad len cap fv h hsp hl hcap hg hw hc hr => exact ⟨false, (fun h => by cases h), fun e => (h e).elim, fun _ => rfl, hrun (some ad) len cap rfl⟩
  obtain ⟨b, h1, h2, h3, hrun⟩ := key
  refine wpList_plain rfl fun K hK => ?_
  unfold Oper.wp
  rw [hrun, Oper.upon_value]
  exact hK _ _ (next b h1 h2 h3 _ _ ⟨m, hs.put (blt_lt ht) (.pv _ _ _ (.bool b))⟩)

/-- 'copy' of as many elements as there are. -/
theorem vo_copy {x y : Operand} {id R : Nat} {Ts T2 el : TypeId} {nl : Option Bool} {fr f : Bool} {xs ys : List PV} {inf : TypeInfo} (ht : Nat.blt t s.n = true) (hx : getO s.env x = .ref id) (hrow : s.rows[id]? = some (.own R 1 nl fr xs))
    (hy : srcOf s.rows (getO s.env y) = some (f, 1, ys)) (hT : P.underlying Ts = some (.slice el)) (hinf : P.info? el = some inf) (hsz : inf.size = 1) (hl : ys.length = xs.length)
    (next : VO P C ops rest Q ⟨s.n, (t, .pv true (.int .i64 xs.length)) :: s.env, s.rows.set id (.own R 1 nl (fr && f) ys)⟩) :
    VO P C ops (⟨some t, .call ⟨.builtin .copy, #[x, y], #[Ts, T2]⟩, ty, pos, af, none⟩ :: rest) Q s := by
  refine vo_value (s1 := { s with rows := s.rows.set id (.own R 1 nl (fr && f) ys) }) (sv := .pv true (.int .i64 xs.length)) ht (fun m a w hs => ?_) next
  obtain ⟨hv, hid⟩ := hs.row hx
  have hlive : liveAt s.rows id := ⟨_, hrow, rfl⟩
  have hR := hs.rows id _ hrow
  have hsrc := hs.src hy (by omega)
  have hop : ∀ (v : Value) (w' : World), (Builtin.copy_ #[Ts, T2] ty #[a.eval x, a.eval y]).run P w = .ok v w' → (execOp a.eval ⟨some t, .call ⟨.builtin .copy, #[x, y], #[Ts, T2]⟩, ty, pos, af, none⟩).run P w = .ok (.value v) w' := by
    intro v w' h
    simp [execOp, resolve, invoke, builtin, h]
  have hcomb : ∀ b, (Gd C s.rows m w f b) → Gd C s.rows m w (fr && f) b := by
    intro b hb
    cases fr with
    | false => exact hb.weak
    | true => exact hb
  generalize hmv : m id = v at *
  cases hR with
  | own v t' e nl fr xs vs hown h1 h2 hw hr =>
    have hint : RS w (Gd C (s.rows.set id (.own R 1 nl (fr && f) ys)) m w) m (s.rows.set id (.own R 1 nl (fr && f) ys)).length (.pv true (.int .i64 xs.length)) (.int .i64 xs.length) := .pv _ _ _ (.int _ _)
    rcases hsrc with ⟨hvy, rfl⟩ | ⟨ad, len, cap, news, hvy, rfl, hnl, hnews, hnr, hn1, hfy⟩
    · have hx0 : xs = [] := List.eq_nil_of_length_eq_zero (by simpa using hl.symm)
      subst hx0
      have hs2 : SimM C { s with rows := s.rows.set id (.own R 1 nl (fr && f) []) } m a w := hs.storeRow (w' := w) (bo := none) hlive (fun _ e => by cases e) ⟨rfl, rfl, rfl, Nat.le_refl _, fun _ _ _ => rfl⟩ _ (fun hG => by
        rw [hmv]; exact .own v R 1 nl _ [] vs hown h1 h2 (fun i x hx => by simp at hx) (fun i x j c hx => by simp at hx))
      refine ⟨.int .i64 0, w, m, hop _ _ ?_, hs2, .pv _ _ _ (.int _ _)⟩
      rw [hv, hvy]
      rcases hown.2 with ⟨rfl, _⟩ | ⟨g, cp, cur, rfl, _⟩
      · simp [MV.of, Builtin.copy_, run_underlying hT, Builtin.lenOf, Builtin.firstCells, sizeOf, typeInfo, hinf, goInt]
      · exact run_copy_nil (P := P) w Ts T2 ty el ⟨g, 0, none⟩ 0 cp hT (by simp [hinf])
    · rcases hown.2 with ⟨rfl, hn0⟩ | ⟨g, cp, cur, rfl, _, hheap, hle, hmx, hcs, htk⟩
      · have hy0 : ys = [] := List.eq_nil_of_length_eq_zero (by omega)
        subst hy0
        have hx0 : xs = [] := List.eq_nil_of_length_eq_zero hn0
        subst hx0
        have hs2 : SimM C { s with rows := s.rows.set id (.own R 1 nl (fr && f) []) } m a w := hs.storeRow (w' := w) (bo := none) hlive (fun _ e => by cases e) ⟨rfl, rfl, rfl, Nat.le_refl _, fun _ _ _ => rfl⟩ _ (fun hG => by
          rw [hmv]; exact .own _ R 1 nl _ [] vs hown h1 h2 (fun i x hx => by simp at hx) (fun i x j c hx => by simp at hx))
        refine ⟨.int .i64 0, w, m, hop _ _ ?_, hs2, .pv _ _ _ (.int _ _)⟩
        rw [hv, hvy]
        simp [MV.of, Builtin.copy_, run_underlying hT, Builtin.lenOf, Builtin.firstCells, sizeOf, typeInfo, hinf, goInt, loadCells, loadCellsFrom]
      · have hnl' : news.length = ys.length := by omega
        have hrun := run_copy_row (P := P) w Ts T2 ty el g 0 xs.length cp ad ys.length cap cur R news hT (by simp [hinf, hsz]) hheap (by rw [hnl', hl]; simp) hnews (by rw [hcs]; omega) hn1
        let cur' : Array Value := (cur.toList.take 0 ++ news ++ cur.toList.drop (0 + news.length)).toArray
        have hg : w.grownBy (w.setRow g cur') (some g) := grown_setRow w g _
        refine ⟨goInt news.length, w.setRow g cur', m, hop _ _ (by rw [hv, hvy]; exact hrun), ?_, ?_⟩
        · refine hs.storeRow hlive (fun b' e => by cases e; rw [hmv]; rfl) hg _ (fun hG => ?_)
          rw [hmv]
          refine .own _ R 1 nl _ ys news ⟨by omega, .inr ⟨g, cp, cur', by rw [hl], Nat.zero_le _, setRow_heap w g cur _ R _ hheap, by omega, hmx, ?_, ?_⟩⟩ (fun h => by have := h1 h; simp at this) (fun _ h => by cases h) hfy (fun i x j c hx hc => ?_)
          · simp [cur']; omega
          · simp [cur', hnl']
          · obtain ⟨u, hu, hp⟩ := hnr i x j c hx hc
            exact ⟨u, hu, hp.mono fun b hb => hG _ b (hcomb b hb)⟩
        · rw [hnl', hl]
          exact .pv _ _ _ (.int _ _)
end
end Go.Vl

/- Classes above a class, and below it. -/
namespace Go.Vl
set_option linter.unusedVariables false
set_option linter.unusedSimpArgs false

/-- Steps lead from a class to another one. -/
inductive Abv (b : List (List Int)) : Nat → Nat → Prop
  | refl (c : Nat) : Abv b c c
  | step {c d x : Nat} (h : (d : Int) ∈ b.getD c []) (h2 : Abv b d x) : Abv b c x

theorem Abv.trans {b : List (List Int)} {c d x : Nat} (h : Abv b c d) (h2 : Abv b d x) : Abv b c x := by
  induction h with
  | refl c => exact h2
  | step h _ ih => exact .step h (ih h2)

def mkB (l : List Int) (m : List Bool) : List Bool := l.foldl (fun m x => m.set x.toNat true) m
def stB (b : List (List Int)) (i : Nat) (m : List Bool) : List Bool := if m.getD i false = true then mkB (b.getD i []) m else m
def goB (b : List (List Int)) : Nat → List Bool → List Bool
  | 0, m => m
  | i+1, m => goB b i (stB b (i+1) m)
/-- The same with the root, whose step is none. -/
def goC (b : List (List Int)) : Nat → List Bool → List Bool
  | 0, m => m
  | i+1, m => goC b i (stB b i m)
def abvB (b : List (List Int)) (c : Nat) : List Bool := goB b c ((List.replicate b.length false).set c true)
def idxT (m : List Bool) (k : Nat) : List Int := ((List.range k).filter (fun i => m.getD i false)).map (fun (i : Nat) => (i : Int))
def idxB (m : List Bool) : List Int := idxT m m.length
def abvL (b : List (List Int)) (c : Nat) : List Int := idxB (abvB b c)

/-- The marks of all classes below a class. -/
def belB (b : List (List Int)) (c : Nat) : List Bool := (List.range b.length).map (fun i => decide ((c : Int) ∈ abvL b i))
def belL (b : List (List Int)) (c : Nat) : List Int := idxB (belB b c)
end Go.Vl

/- Lists that keep others; merges of lists. -/
namespace Go.Vl
set_option linter.unusedVariables false
set_option linter.unusedSimpArgs false

/-- How far the second list is met along the first one, from a place on. -/
def kpN (short : List Int) : List Int → Nat → Nat
  | [], a => a
  | x :: l, a => kpN short l (if a < short.length ∧ short.getD a 0 = x then a + 1 else a)

/-- What KeepsOrder says. -/
def KO (long short : List Int) : Prop := OKL' long ∧ OKL' short ∧ short.Sublist long
  where OKL' (l : List Int) : Prop := (l.length : Int) ≤ 12 ∧ l.Nodup
end Go.Vl

/- Merges of lists. -/
namespace Go.Vl
set_option linter.unusedVariables false
set_option linter.unusedSimpArgs false

def fM (n : Int) : List Int → Int → Int
  | [], _ => -1
  | x :: xs, i => if x = n then i else fM n xs (i+1)

/-- Behind the first place. -/
def bhd (x : Int) (l : List Int) : Prop := 0 < fM x l 0
instance {x : Int} {l : List Int} : Decidable (bhd x l) := by unfold bhd; infer_instance
def anyB (ls : List (List Int)) (x : Int) : Prop := ∃ l ∈ ls, bhd x l
instance {ls : List (List Int)} {x : Int} : Decidable (anyB ls x) := by unfold anyB; infer_instance

def freeH (all : List (List Int)) (l : List Int) : Option Int := if 0 < l.length ∧ ¬ anyB all (l.getD 0 0) then some (l.getD 0 0) else none
def fhF (all : List (List Int)) : List (List Int) → Option Int
  | [] => none
  | l :: r => match freeH all l with
    | some x => some x
    | none => fhF all r
def fhM (ls : List (List Int)) : Option Int := fhF ls ls
theorem fhF_drop (all ls : List (List Int)) (k : Nat) (h : k < ls.length) : fhF all (ls.drop k) = match freeH all (ls.getD k []) with | some x => some x | none => fhF all (ls.drop (k+1)) := by
  rw [List.drop_eq_getElem_cons h]
  have : ls.getD k [] = ls[k] := by simp [List.getD, List.getElem?_eq_getElem h]
  rw [this]; rfl
theorem freeH_t {all : List (List Int)} {l : List Int} (h1 : 0 < l.length) (h2 : ¬ anyB all (l.getD 0 0)) : freeH all l = some (l.getD 0 0) := if_pos ⟨h1, h2⟩
theorem freeH_f {all : List (List Int)} {l : List Int} (h : ¬ (0 < l.length ∧ ¬ anyB all (l.getD 0 0))) : freeH all l = none := if_neg h

/-- A list without a number at its head. -/
def tk (x : Int) (l : List Int) : List Int := if 0 < l.length ∧ l.getD 0 0 = x then l.drop 1 else l
theorem tk_t {x : Int} {l : List Int} (h : 0 < l.length) (h2 : l.getD 0 0 = x) : tk x l = l.drop 1 := if_pos ⟨h, h2⟩
theorem tk_f {x : Int} {l : List Int} (h : ¬ (0 < l.length ∧ l.getD 0 0 = x)) : tk x l = l := if_neg h
def tot (ls : List (List Int)) : Nat := (ls.map List.length).sum
theorem tk_len (x : Int) (l : List Int) : (tk x l).length ≤ l.length := by unfold tk; split <;> simp
theorem tot_tk (x : Int) : ∀ ls : List (List Int), tot (ls.map (tk x)) ≤ tot ls
  | [] => Nat.le_refl _
  | l :: r => by
    have h1 := tot_tk x r
    have h2 := tk_len x l
    simp only [tot, List.map_cons, List.sum_cons] at h1 ⊢
    omega
theorem tot_lt {ls : List (List Int)} {l : List Int} (h : l ∈ ls) (x : Int) (h1 : 0 < l.length) (h2 : l.getD 0 0 = x) : tot (ls.map (tk x)) < tot ls := by
  induction ls with
  | nil => cases h
  | cons a r ih =>
    have h3 := tk_len x a
    have h4 := tot_tk x r
    simp only [tot, List.map_cons, List.sum_cons] at ih h4 ⊢
    rcases List.mem_cons.1 h with rfl | h
    · rw [tk_t h1 h2, List.length_drop]; omega
    · have := ih h; omega
theorem fhF_some {all : List (List Int)} : ∀ {ls : List (List Int)} {x : Int}, fhF all ls = some x → ∃ l ∈ ls, 0 < l.length ∧ l.getD 0 0 = x ∧ ¬ anyB all x
  | l :: r, x, h => by
    unfold fhF at h
    split at h
    · rename_i y hy
      cases h
      unfold freeH at hy
      split at hy
      · rename_i h1
        cases hy
        exact ⟨l, List.mem_cons_self, h1.1, rfl, h1.2⟩
      · cases hy
    · obtain ⟨l', h1, h2⟩ := fhF_some h
      exact ⟨l', List.mem_cons_of_mem _ h1, h2⟩
theorem fhM_tot {ls : List (List Int)} {x : Int} (h : fhM ls = some x) : tot (ls.map (tk x)) < tot ls := by
  obtain ⟨l, h1, h2, h3, _⟩ := fhF_some h
  exact tot_lt h1 x h2 h3

def mergeF : Nat → List (List Int) → List Int × List (List Int)
  | 0, ls => ([], ls)
  | n+1, ls => match fhM ls with
    | none => ([], ls)
    | some x => (x :: (mergeF n (ls.map (tk x))).1, (mergeF n (ls.map (tk x))).2)
def mergeM (ls : List (List Int)) : List Int × List (List Int) := mergeF (tot ls) ls
theorem mergeF_none {n : Nat} {ls : List (List Int)} (h : fhM ls = none) : mergeF n ls = ([], ls) := by
  cases n with
  | zero => rfl
  | succ n => simp [mergeF, h]
theorem mergeF_some {n : Nat} {ls : List (List Int)} {x : Int} (h : fhM ls = some x) (hn : tot ls ≤ n) : mergeF n ls = (x :: (mergeF (n-1) (ls.map (tk x))).1, (mergeF (n-1) (ls.map (tk x))).2) := by
  cases n with
  | zero => have := fhM_tot h; omega
  | succ n => simp [mergeF, h]
theorem mergeF_tot : ∀ (n : Nat) (ls : List (List Int)), (mergeF n ls).1.length + tot (mergeF n ls).2 ≤ tot ls
  | 0, ls => by simp [mergeF]
  | n+1, ls => by
    unfold mergeF
    split
    · simp
    · rename_i x hx
      have h1 := mergeF_tot n (ls.map (tk x))
      have h2 := fhM_tot hx
      simp only [List.length_cons]
      omega
theorem mergeF_len : ∀ (n : Nat) (ls : List (List Int)), (mergeF n ls).2.length = ls.length
  | 0, ls => rfl
  | n+1, ls => by
    unfold mergeF
    split
    · rfl
    · rename_i x hx
      simpa using mergeF_len n (ls.map (tk x))

/-- Each once, where it stands first. -/
def onceF : List Int → List Int → List Int
  | acc, [] => acc
  | acc, x :: l => onceF (if x ∈ acc then acc else acc ++ [x]) l
theorem onceF_drop (acc l : List Int) (k : Nat) (h : k < l.length) : onceF acc (l.drop k) = onceF (if l.getD k 0 ∈ acc then acc else acc ++ [l.getD k 0]) (l.drop (k+1)) := by
  rw [List.drop_eq_getElem_cons h]
  have : l.getD k 0 = l[k] := by simp [List.getD, List.getElem?_eq_getElem h]
  rw [this]; rfl
theorem onceF_ge : ∀ (l acc : List Int), acc.length ≤ (onceF acc l).length
  | [], acc => Nat.le_refl _
  | x :: l, acc => by
    have := onceF_ge l (if x ∈ acc then acc else acc ++ [x])
    simp only [onceF]
    split at this <;> simp_all <;> omega
/-- The first numbers of lists. -/
def hd1 (l : List Int) : List Int := l.take 1
def hds (ls : List (List Int)) : List Int := ls.flatMap hd1
theorem hds_len : ∀ ls : List (List Int), (hds ls).length ≤ ls.length
  | [] => Nat.le_refl _
  | l :: r => by
    have := hds_len r
    simp only [hds, List.flatMap_cons, List.length_append, List.length_cons, hd1, List.length_take] at this ⊢
    omega
theorem hds_snoc {ls : List (List Int)} {k : Nat} (h : k < ls.length) : hds (ls.take (k+1)) = hds (ls.take k) ++ hd1 (ls.getD k []) := by
  have : ls.getD k [] = ls[k] := by simp [List.getD, List.getElem?_eq_getElem h]
  unfold hds
  rw [List.take_succ_eq_append_getElem h, List.flatMap_append, List.flatMap_cons, List.flatMap_nil, List.append_nil, this]
theorem hd1_t {l : List Int} (h : 0 < l.length) : hd1 l = [l.getD 0 0] := by
  cases l with
  | nil => simp at h
  | cons x l => rfl
theorem hd1_f {l : List Int} (h : ¬ 0 < l.length) : hd1 l = [] := by
  have : l = [] := List.eq_nil_of_length_eq_zero (by omega)
  subst this; rfl
theorem hds_nil {ls : List (List Int)} : hds ls = [] ↔ ∀ l ∈ ls, l = [] := by
  unfold hds
  rw [List.flatMap_eq_nil_iff]
  constructor
  · intro h l hl
    have := h l hl
    cases l with
    | nil => rfl
    | cons x l => simp [hd1] at this
  · intro h l hl
    rw [h l hl]; rfl
theorem once_nil {l : List Int} : onceF [] l = [] ↔ l = [] := by
  cases l with
  | nil => simp [onceF]
  | cons x l =>
    simp only [onceF, List.not_mem_nil, if_false, List.nil_append, reduceCtorEq, iff_false]
    intro h
    have := onceF_ge l [x]
    rw [h] at this
    simp at this
theorem map_set_tk {ls : List (List Int)} {k : Nat} (h : k < ls.length) (x : Int) : (((ls.take k).map (tk x)) ++ ls.drop k).set k (tk x (ls.getD k [])) = ((ls.take (k+1)).map (tk x)) ++ ls.drop (k+1) := by
  have e : ls.getD k [] = ls[k] := by simp [List.getD, List.getElem?_eq_getElem h]
  rw [e, List.take_succ_eq_append_getElem h, List.drop_eq_getElem_cons h, List.set_append_right _ _ (by simp; omega)]
  have e2 : k - (List.map (tk x) (List.take k ls)).length = 0 := by rw [List.length_map, List.length_take]; omega
  rw [e2, List.map_append, List.append_assoc]
  rfl
theorem map_keep_tk {ls : List (List Int)} {k : Nat} (h : k < ls.length) (x : Int) (h2 : tk x (ls.getD k []) = ls.getD k []) : ((ls.take k).map (tk x)) ++ ls.drop k = ((ls.take (k+1)).map (tk x)) ++ ls.drop (k+1) := by
  have e : ls.getD k [] = ls[k] := by simp [List.getD, List.getElem?_eq_getElem h]
  rw [e] at h2
  rw [List.take_succ_eq_append_getElem h, List.drop_eq_getElem_cons h, List.map_append, List.map_cons, h2]
  simp
theorem map_at_tk {ls : List (List Int)} {k : Nat} (h : k < ls.length) (x : Int) : (((ls.take k).map (tk x)) ++ ls.drop k).getD k [] = ls.getD k [] := by
  simp only [List.getD, List.getElem?_append, List.length_map, List.length_take]
  rw [if_neg (by omega), List.getElem?_drop]
  congr 2
  omega
theorem map_snoc_tk {ls : List (List Int)} {k : Nat} (h : k < ls.length) (x : Int) : ((ls.take k).map (tk x)) ++ [tk x (ls.getD k [])] = (ls.take (k+1)).map (tk x) := by
  have e : ls.getD k [] = ls[k] := by simp [List.getD, List.getElem?_eq_getElem h]
  rw [e, List.take_succ_eq_append_getElem h, List.map_append]; rfl
end Go.Vl

/- A call that makes rows, in a statement whose order of evaluation is open. -/
namespace Go.Vl
set_option linter.unusedVariables false
set_option linter.unusedSimpArgs false
open Go.RowKit

section
variable {P : Program} {C : Ctx} {ops : Array Oper} {K : St → Prop} {s : St} {n : Nat} {listed : Array Bool}

end
end Go.Vl

/- More ghost steps: a row forgets that what it holds is new. -/
namespace Go.Vl
set_option linter.unusedVariables false
set_option linter.unusedSimpArgs false
open Go.RowKit

section
variable {P : Program} {C : Ctx} {Q : Go.Exit → St → Prop} {s : St}
theorem vc_flagrow {code : Code} (id : Nat) {el e : Nat} {nl : Option Bool} {f : Bool} {xs : List PV} (hrow : s.rows[id]? = some (.own el e nl f xs))
    (next : VC P C code Q ⟨s.n, s.env, s.rows.set id (.own el e nl false xs)⟩) : VC P C code Q s := by
  intro a w ⟨m, hs⟩
  refine next a w ⟨m, hs.storeRow (w' := w) (bo := none) ⟨_, hrow, rfl⟩ (fun _ e => by cases e) ⟨rfl, rfl, rfl, Nat.le_refl _, fun _ _ _ => rfl⟩ _ (fun hG => ?_)⟩
  have h := hs.rows id _ hrow
  generalize m id = v at h
  cases h with
  | own v t e nl fr xs vs hown h1 h2 hw hr =>
    refine .own v _ _ _ _ _ vs hown h1 h2 hw (fun i x j c hx hc => ?_)
    obtain ⟨u, hu, hp⟩ := hr i x j c hx hc
    exact ⟨u, hu, hp.mono fun b hb => ⟨(hG _ b hb).1.weak, (hG _ b hb).2⟩⟩
end
end Go.Vl

/- Nil slices of the call's own that are known to be nil; a slice held to differ from nil. -/
namespace Go.Vl
set_option linter.unusedVariables false
set_option linter.unusedSimpArgs false
open Go.RowKit

section
variable {P : Program} {C : Ctx} {Q : Go.Exit → St → Prop} {s : St} {ops : Array Oper} {rest : List Oper} {t : Nat} {ty : TypeId} {pos : String} {af : Array Edge}

theorem vc_own_nilT {code : Code} (u : Nat) {T el e by' e0 : Nat} {d : PV} {f : Bool} (hI : ElInfo P T el e by' d) (hu : look s.env u = .pv f (.sl (some true) e0 []))
    (next : VC P C code Q ⟨s.n, (u, .ref s.rows.length) :: s.env, s.rows ++ [.own el e (some true) true []]⟩) : VC P C code Q s := by
  intro a w ⟨m, hs⟩
  have hv := hs.env u
  rw [hu] at hv
  have hv := hv.pv_inv
  have hval : a.tmps.getD u undef = .slice none 0 0 := by
    generalize a.tmps.getD u undef = v at hv
    cases hv with
    | nilsl => rfl
    | sl nl e xs a len cap f h => exact (h rfl).elim
  have hadd := hs.addRow (w' := w) ⟨rfl, rfl, rfl, Nat.le_refl _, fun _ _ _ => rfl⟩ (.own el e (some true) true []) (.of <| .slice none 0 0)
    (fun b hb => by simp [MV.of, blk] at hb) (fun hG => .own _ el e _ true [] [] (World.ownsRow_nil w 0 el e) (fun _ => rfl) (fun h => by cases h) (fun i x hx => by simp at hx) (fun i x j c hx => by simp at hx))
  refine next a w ⟨_, { hadd.1 with env := fun q => ?_ }⟩
  show RS _ _ _ _ (look ((u, .ref s.rows.length) :: s.env) q) _
  rw [look_cons]
  split
  · rename_i e
    subst e
    rw [hval]
    have := RS.ref (w := w) (G := Gd C (s.rows ++ [.own el e (some true) true []]) (updM m s.rows.length (.of <| .slice none 0 0)) w) (m := updM m s.rows.length (.of <| .slice none 0 0)) (N := (s.rows ++ [Row.own el e (some true) true []]).length) s.rows.length (by simp)
    rw [updM_same] at this
    exact this
  · exact hadd.1.env q

end
end Go.Vl

/- A slice is taken out of a row whose slices are its own: it becomes a row. -/
namespace Go.Vl
set_option linter.unusedVariables false
set_option linter.unusedSimpArgs false
open Go.RowKit

theorem RS.monoV {w w' : World} {G G' : Bool → Nat → Prop} {m m' : Nat → MV} {N N' : Nat} (hG : ∀ fr b, G fr b → G' fr b ∧ w'.heap[b]? = w.heap[b]?)
    (hN : N ≤ N') (hm : ∀ id, id < N → (m' id).v = (m id).v) {s : SV} {v : Value} (h : RS w G m N s v) : RS w' G' m' N' s v := by
  induction h with
  | any v => exact .any v
  | val u => exact .val _
  | und => exact .und
  | pv fr p v h => exact .pv fr p v (h.mono (hG fr))
  | ref id h => rw [← hm id h]; exact .ref id (by omega)
  | ptr id e i o b hid h => exact .ptr id e i o b (by omega) (by rw [hm id hid]; exact h)
  | adr fr cs a f hs hg h1 hc hr =>
    refine .adr fr cs a f hs (fun hne => (hG fr _ (hg hne)).1) h1 (fun j c hj => ?_) (fun j c hj => (hr j c hj).mono (hG fr))
    have hne : cs ≠ [] := by intro h0; subst h0; simp at hj
    have := (hG fr _ (hg hne)).2
    rw [← hc j c hj]
    simp [World.cell?, this]
  | tup vs us hl h ih => exact .tup vs us hl ih
  | ag vs us hl h h1 ih => exact .ag vs us hl ih h1
  | sub i e l h c v hid hs => exact .sub i e l h c v (by omega) (by rw [hm i hid]; exact hs)

theorem RowOK.monoV {w w' : World} {G G' : Bool → Nat → Prop} {m m' : Nat → MV} {N N' : Nat} {v : MV} {r : Row} (hG : ∀ fr b, G fr b → G' fr b ∧ w'.heap[b]? = w.heap[b]?)
    (hN : N ≤ N') (hm : ∀ id, id < N → (m' id).v = (m id).v) (h : RowOK w G m N v r) (hb : r.live = true → ∀ b, v.S b → w'.heap[b]? = w.heap[b]?) : RowOK w' G' m' N' v r := by
  cases h with
  | dead v => exact .dead v
  | own v t e nl fr xs vs hown h1 h2 hw hr =>
    refine .own v t e nl fr xs vs ?_ h1 h2 hw (fun i x j c hx hc => ?_)
    · refine ⟨hown.1, ?_⟩
      rcases hown.2 with h | ⟨g, cap, cur, rfl, h0, hh, rest⟩
      · exact .inl h
      · exact .inr ⟨g, cap, cur, rfl, h0, by rw [hb rfl g rfl]; exact hh, rest⟩
    · obtain ⟨u, hu, hp⟩ := hr i x j c hx hc
      exact ⟨u, hu, hp.mono (hG fr)⟩
  | var b t cs cur hbk hl hr h1 =>
    exact .var b t cs cur (by rw [hb rfl b rfl]; exact hbk) hl (fun j c u hc hu => (hr j c u hc hu).monoV hG hN hm) h1
  | gh mv us cs hl h => exact .gh _ us cs hl (fun j c u hc hu => (h j c u hc hu).monoV hG hN hm)
  | mp b g es clock hbk hm' => exact .mp b g es clock (by rw [hb rfl b rfl]; exact hbk) hm'
  | tree mv t e nl h xs vals Sf hown h1 h2 hw hr hd hn hz hS hkn =>
    exact .tree _ t e nl h xs vals Sf (ownsRow_blk hown fun b h => hb rfl b ((hS b).2 (.inl h))) h1 h2 hw
      (fun i x j c u hx hc hu => (hr i x j c u hx hc hu).mono fun b h => hb rfl b ((hS b).2 (.inr ⟨_, h⟩))) hd hn hz hS hkn


section
variable {P : Program} {C : Ctx} {Q : Go.Exit → St → Prop} {s : St} {ops : Array Oper} {rest : List Oper} {t : Nat} {ty : TypeId} {pos : String} {af : Array Edge}

theorem vo_take {l : List Oper} (id u0 : Nat) {R i : Nat} {nl nlc : Option Bool} {ec : Nat} {u : Value} {xs ys : List PV} (hnb : C.nb ≤ id) (hu0 : look s.env u0 = .val u)
    (hrow : s.rows[id]? = some (.tree R 1 nl (some (i, some u)) xs)) (hget : xs[i]? = some (.sl nlc ec ys)) (hpl : plainX ys)
    (next : ∀ Rc, VO P C ops l Q ⟨s.n, (u0, .ref s.rows.length) :: s.env, s.rows.set id (Row.tree R 1 nl (some (i, none)) xs) ++ [Row.own Rc ec nlc true ys]⟩) : VO P C ops l Q s := by
  intro a w ⟨m, hs⟩
  have hlid : liveAt s.rows id := ⟨_, hrow, rfl⟩
  have hidl : id < s.rows.length := (List.getElem?_eq_some_iff.1 hrow).1
  have hR := hs.rows id _ hrow
  have hev : a.tmps.getD u0 undef = u := by
    have := hs.env u0
    rw [hu0] at this
    generalize a.tmps.getD u0 undef = v at this
    cases this
    rfl
  have key : ∃ (Sf : Nat → Nat → Prop) (Rc : TypeId), (∀ b, Sf i b → (m id).S b) ∧ (∀ m2 N2, RowOK w (fun _ _ => False) m2 N2 ⟨u, Sf i⟩ (.own Rc ec nlc true ys)) ∧
      (∀ G m2 N2, RowOK w G m2 N2 ⟨(m id).v, fun b => (m id).S b ∧ ¬ Sf i b⟩ (.tree R 1 nl (some (i, none)) xs)) := by
    generalize hmv : m id = v at *
    cases hR with
    | tree mv t' e nl h xs vals Sf hown h1 h2 hw hr hd hn hz hS hkn =>
      have hui : vals[i]? = some u := hkn i u rfl
      have hTP : TP w (.sl nlc ec ys) u (Sf i) := by
        have := (hr i (.sl nlc ec ys) 0 (.sl nlc ec ys) u hget rfl (by simpa using hui)).tpK
        simpa using this
      have hone := hTP.oneCell
      obtain ⟨Rc, hRc⟩ : ∃ Rc, ∀ m2 N2, RowOK w (fun _ _ => False) m2 N2 ⟨u, Sf i⟩ (.own Rc ec nlc true ys) := by
        cases hTP with
        | scal _ _ _ hsc9 => simp [PV.scal] at hsc9
        | sl tc e nl xs v vals2 Sf2 S hown2 g1 g2 gw gr gd gn gz gS =>
          have hemp : ∀ q b, ¬ Sf2 q b := by
            intro q b hb
            rcases Nat.lt_or_ge q (ys.length * ec) with hq | hq
            · obtain ⟨y, c, uu, hy, hc, huu, e1⟩ := cellAt hown2 gw hq
              have h3 := gr _ y _ c uu hy hc huu
              have h4 := hpl y (List.mem_of_getElem? hy) c (List.mem_of_getElem? hc)
              rw [e1] at h3
              cases h3 with
              | scal _ _ _ _ _ hS3 => exact hS3 b hb
              | gone _ _ _ hS3 => exact hS3 b hb
              | sl t9 e9 nl9 xs9 v9 vals9 Sf9 S9 hown9 k1 k2 kw kr kd kn kz kS =>
                unfold plainB at h4
                split at h4
                · rename_i e8 h8
                  cases h8
                  have hv9 := k1 rfl
                  rcases (kS b).1 hb with h5 | ⟨q9, h5⟩
                  · rw [hv9] at h5; simp [blk] at h5
                  · exact kz q9 b (by simp) h5
                · simp [PV.scal] at h4
            · exact gz q b hq hb
          have hSe : (⟨u, Sf i⟩ : MV) = .of u := by
            unfold MV.of
            congr 1
            funext b
            exact propext ((gS b).trans ⟨fun h => h.elim (fun h => h) (fun ⟨q, h⟩ => (hemp q b h).elim), .inl⟩)
          rw [hSe]
          refine ⟨tc, fun m2 N2 => .own u tc ec nlc true ys vals2 hown2 g1 g2 gw (fun k y j c hy hc => ?_)⟩
          have hj : j < ec := by rw [← (gw k y hy).1]; exact (List.getElem?_eq_some_iff.1 hc).1
          have hk : k < ys.length := (List.getElem?_eq_some_iff.1 hy).1
          have hlt2 : k * ec + j < vals2.length := by
            rw [hown2.1]
            have := Nat.mul_le_mul_right ec (show k + 1 ≤ ys.length by omega)
            rw [Nat.add_mul] at this
            omega
          refine ⟨_, List.getElem?_eq_getElem hlt2, ?_⟩
          have h3 := gr k y j c _ hy hc (List.getElem?_eq_getElem hlt2)
          exact (h3.rp (G := fun b => Sf2 (k * ec + j) b) (fun _ h => h)).mono fun b hb => (hemp _ b hb).elim

      refine ⟨Sf, Rc, fun b hb => (hS b).2 (.inr ⟨i, hb⟩), hRc, fun G m2 N2 => .tree _ _ _ _ _ _ vals (fun q b => q ≠ i ∧ Sf q b) hown h1 h2 hw (fun k y j c u' hy hc hu' => ?_) (fun q q' b h3 h4 => hd q q' b h3.2 h4.2) (fun q b h3 => hn q b h3.2) (fun q b hq h3 => hz q b hq h3.2) (fun b => ?_) (fun q u' h3 => by cases h3)⟩
      · have h5 := (hr k y j c u' hy hc hu').tpK
        by_cases e : k * 1 + j = i
        · exact .inr ⟨by rw [e], fun b h3 => h3.1 e, h5.oneCell⟩
        · have e2 : (fun b => k * 1 + j ≠ i ∧ Sf (k * 1 + j) b) = Sf (k * 1 + j) := by
            funext b
            exact propext ⟨fun h => h.2, fun h => ⟨e, h⟩⟩
          left
          show TP w c u' (fun b => k * 1 + j ≠ i ∧ Sf (k * 1 + j) b)
          rw [e2]; exact h5
      · show (_ ∧ ¬ Sf i b) ↔ _
        rw [hS b]
        constructor
        · rintro ⟨h3 | ⟨q, h3⟩, h4⟩
          · exact .inl h3
          · exact .inr ⟨q, fun e => h4 (e ▸ h3), h3⟩
        · rintro (h3 | ⟨q, h3, h4⟩)
          · exact ⟨.inl h3, fun h4 => hn i b h4 h3⟩
          · exact ⟨.inr ⟨q, h4⟩, fun h5 => h3 (hd q i b h4 h5)⟩
  obtain ⟨Sf, Rc, hsub, hown, htree⟩ := key
  let m' : Nat → MV := updM (updM m id ⟨(m id).v, fun b => (m id).S b ∧ ¬ Sf i b⟩) s.rows.length ⟨u, Sf i⟩
  have hmL : m' s.rows.length = ⟨u, Sf i⟩ := updM_same ..
  have hmI : m' id = ⟨(m id).v, fun b => (m id).S b ∧ ¬ Sf i b⟩ := by
    show updM _ _ _ id = _
    rw [updM_ne _ _ (by omega), updM_same]
  have hmO : ∀ j, j ≠ id → j ≠ s.rows.length → m' j = m j := fun j h1 h2 => by
    show updM _ _ _ j = _
    rw [updM_ne _ _ h2, updM_ne _ _ h1]
  have hmv : ∀ j, j < s.rows.length → (m' j).v = (m j).v := fun j hj => by
    by_cases e : j = id
    · subst e; rw [hmI]
    · rw [hmO j e (by omega)]
  have hlive : ∀ j, liveAt (s.rows.set id (Row.tree R 1 nl (some (i, none)) xs) ++ [Row.own Rc ec nlc true ys]) j → j = s.rows.length ∨ (j < s.rows.length ∧ liveAt s.rows j) := by
    intro j ⟨q, hq, hv⟩
    rw [List.getElem?_append] at hq
    split at hq
    · rename_i hlt
      exact .inr ⟨by simpa using hlt, liveAt_set ⟨q, hq, hv⟩ hlid⟩
    · rename_i hge
      simp only [List.length_set] at hge hq
      rcases Nat.lt_or_ge (j - s.rows.length) 1 with h1 | h1
      · exact .inl (by omega)
      · rw [List.getElem?_eq_none (by simpa using h1)] at hq; cases hq
  have hsrc : ∀ j b, liveAt (s.rows.set id (Row.tree R 1 nl (some (i, none)) xs) ++ [Row.own Rc ec nlc true ys]) j → (m' j).S b → ∃ k, liveAt s.rows k ∧ (m k).S b ∧ ((j = s.rows.length ∧ k = id ∧ Sf i b) ∨ (j < s.rows.length ∧ k = j ∧ (j = id → ¬ Sf i b))) := by
    intro j b hl hb
    rcases hlive j hl with rfl | ⟨h1, h2⟩
    · rw [hmL] at hb
      exact ⟨id, hlid, hsub b hb, .inl ⟨rfl, rfl, hb⟩⟩
    · by_cases e : j = id
      · subst e
        rw [hmI] at hb
        exact ⟨j, h2, hb.1, .inr ⟨h1, rfl, fun _ => hb.2⟩⟩
      · rw [hmO j e (by omega)] at hb
        exact ⟨j, h2, hb, .inr ⟨h1, rfl, fun h => (e h).elim⟩⟩
  have hG : ∀ fr b, Gd C s.rows m w fr b → Gd C (s.rows.set id (Row.tree R 1 nl (some (i, none)) xs) ++ [Row.own Rc ec nlc true ys]) m' w fr b ∧ w.heap[b]? = w.heap[b]? := by
    rintro fr b ⟨h1, h2, h3⟩
    refine ⟨⟨h1, fun ⟨j, hj, hb⟩ => ?_, h3⟩, rfl⟩
    obtain ⟨k, h4, h5, _⟩ := hsrc j b hj hb
    exact h2 ⟨k, h4, h5⟩
  have hlen : (s.rows.set id (Row.tree R 1 nl (some (i, none)) xs) ++ [Row.own Rc ec nlc true ys]).length = s.rows.length + 1 := by simp
  refine next Rc a w ⟨m', ?_⟩
  exact {
    defs := hs.defs
    size := hs.size
    os := hs.os
    tape := hs.tape
    output := hs.output
    hsz := hs.hsz
    old := hs.old
    bor := fun j hj => by have := hs.nbl; rw [hmO j (by omega) (by omega)]; exact hs.bor j hj
    nbl := by have := hs.nbl; show C.nb ≤ List.length _; rw [hlen]; omega
    newb := fun j b hj hl hb => by
      obtain ⟨k, h1, h2, h3⟩ := hsrc j b hl hb
      exact hs.newb k b (by rcases h3 with ⟨_, rfl, _⟩ | ⟨_, rfl, _⟩ <;> omega) h1 h2
    dist := fun j1 j2 b h1 h2 hb1 hb2 => by
      obtain ⟨k1, a1, a2, a3⟩ := hsrc j1 b h1 hb1
      obtain ⟨k2, c1, c2, c3⟩ := hsrc j2 b h2 hb2
      have e := hs.dist k1 k2 b a1 c1 a2 c2
      rcases a3 with ⟨d1, d2, d3⟩ | ⟨d1, d2, d3⟩ <;> rcases c3 with ⟨f1, f2, f3⟩ | ⟨f1, f2, f3⟩
      · omega
      · exact (f3 (by omega) d3).elim
      · exact (d3 (by omega) f3).elim
      · omega
    rows := fun j q hq => by
      show RowOK w _ _ (List.length _) _ q
      rw [hlen]
      change (s.rows.set id (Row.tree R 1 nl (some (i, none)) xs) ++ [Row.own Rc ec nlc true ys])[j]? = some q at hq
      rw [List.getElem?_append] at hq
      split at hq
      · rename_i hlt
        rw [List.length_set] at hlt
        rw [List.getElem?_set] at hq
        split at hq
        · rename_i e
          subst e
          cases hq
          rw [hmI]
          exact htree _ _ _
        · rename_i e
          rw [hmO j (Ne.symm e) (by omega)]
          exact (hs.rows j q hq).monoV hG (by omega) hmv (fun _ _ _ => rfl)
      · rename_i hge
        simp only [List.length_set] at hge hq
        have e : j = s.rows.length := by
          rcases Nat.lt_or_ge (j - s.rows.length) 1 with h1 | h1
          · omega
          · rw [List.getElem?_eq_none (by simpa using h1)] at hq; cases hq
        subst e
        simp at hq
        subst hq
        rw [hmL]
        exact (hown _ _).monoV (G := fun _ _ => False) (m := m') (N := s.rows.length) (fun _ _ h => h.elim) (by omega) (fun _ _ => rfl) (fun _ _ _ => rfl)
    env := fun q => by
      show RS w _ _ (List.length _) (look ((u0, .ref s.rows.length) :: s.env) q) _
      rw [hlen, look_cons]
      split
      · rename_i e
        subst e
        rw [hev]
        have := RS.ref (w := w) (G := Gd C (s.rows.set id (Row.tree R 1 nl (some (i, none)) xs) ++ [Row.own Rc ec nlc true ys]) m' w) (m := m') (N := s.rows.length + 1) s.rows.length (by omega)
        rw [hmL] at this
        exact this
      · exact (hs.env q).monoV hG (by omega) hmv }
end
end Go.Vl

/- A row of the call's own held to differ from nil. -/
namespace Go.Vl
set_option linter.unusedVariables false
set_option linter.unusedSimpArgs false
open Go.RowKit

section
variable {P : Program} {C : Ctx} {Q : Go.Exit → St → Prop} {s : St} {ops : Array Oper} {rest : List Oper} {t : Nat} {ty : TypeId} {pos : String} {af : Array Edge}

/-- A row held against the literal nil. -/
theorem vo_neqnil_ref {x : Operand} {T T2 el : TypeId} {f : Bool} {nl : Option Bool} {e : Nat} {xs : List PV} (ht : Nat.blt t s.n = true) {id : Nat} {R : TypeId} (hx : getO s.env x = .ref id) (hrow : s.rows[id]? = some (.own R e nl f xs)) (hT : P.underlying T = some (.slice el))
    (next : ∀ b : Bool, (b = true → xs = []) → (nl = some true → b = true) → (nl = some false → b = false) → VO P C ops rest Q (s.put t (.pv true (.bool !b)))) :
    VO P C ops (⟨some t, .binOp .neq T x (.const (.slice none 0 0)) T2, ty, pos, af, none⟩ :: rest) Q s := by
  intro a w ⟨m, hs⟩
  obtain ⟨hv0, _⟩ := hs.row hx
  have hR := hs.rows id _ hrow
  have key : ∃ b : Bool, (b = true → xs = []) ∧ (nl = some true → b = true) ∧ (nl = some false → b = false) ∧ (execOp a.eval ⟨some t, .binOp .neq T x (.const (.slice none 0 0)) T2, ty, pos, af, none⟩).run P w = .ok (.value (.bool !b)) w := by
    have hrun : ∀ (o : Option Addr) (l c : Nat), a.eval x = .slice o l c → (execOp a.eval ⟨some t, .binOp .neq T x (.const (.slice none 0 0)) T2, ty, pos, af, none⟩).run P w = .ok (.value (.bool !o.isNone)) w := by
      intro o l c e
      have hg : (eqGuard .neq T x (.const (.slice none 0 0)) (.slice o l c) (.slice none 0 0)).run P w = .ok () w := rfl
      have heq : (Op.equal T (.slice o l c) (.slice none 0 0)).run P w = .ok o.isNone w := by
        show (Op.equalIn (9999 + 1) T (.slice o l c) (.slice none 0 0)).run P w = _
        unfold Op.equalIn
        cases o <;> simp [run_underlying hT]
      have hb : (binOp .neq T (.slice o l c) (.slice none 0 0)).run P w = .ok (.bool !o.isNone) w := by
        show (do pure (Value.bool (!(← Op.equal T (.slice o l c) (.slice none 0 0)))) : Sem Value).run P w = _
        simp [heq]
      have e3 : a.eval (.const (.slice none 0 0)) = .slice none 0 0 := rfl
      simp only [execOp, e, e3]
      simp [hg, hb]
    generalize m id = v at *
    cases hR with
    | own v t e nl fr xs vs hown h1 h2 hw hr =>
      rcases hown.2 with ⟨e0, hn0⟩ | ⟨g, cap, cur, e0, _⟩
      · refine ⟨true, fun _ => List.eq_nil_of_length_eq_zero hn0, fun _ => rfl, fun h => (h2 h e0).elim, ?_⟩
        exact hrun none 0 0 (hv0.trans e0)
      · refine ⟨false, (fun h => by cases h), (fun h => by have := h1 h; rw [e0] at this; cases this), fun _ => rfl, ?_⟩
        exact hrun (some _) _ _ (hv0.trans e0)
  obtain ⟨b, h1, h2, h3, hrun⟩ := key
  refine wpList_plain rfl fun K hK => ?_
  unfold Oper.wp
  rw [hrun, Oper.upon_value]
  exact hK _ _ (next b h1 h2 h3 _ _ ⟨m, hs.put (blt_lt ht) (.pv _ _ _ (.bool !b))⟩)

end
end Go.Vl

/- A slice of a row whose slices are its own held against nil. -/
namespace Go.Vl
set_option linter.unusedVariables false
set_option linter.unusedSimpArgs false
open Go.RowKit

section
variable {P : Program} {C : Ctx} {Q : Go.Exit → St → Prop} {s : St} {ops : Array Oper} {rest : List Oper} {t : Nat} {ty : TypeId} {pos : String} {af : Array Edge}

end
end Go.Vl

/- Ghost steps in a statement whose order is open. -/
namespace Go.Vl
set_option linter.unusedVariables false
set_option linter.unusedSimpArgs false
open Go.RowKit
end Go.Vl

/- Statements whose order of evaluation is open, with operations that write: these come when nothing else can. -/
namespace Go.Vl
set_option linter.unusedVariables false
set_option linter.unusedSimpArgs false
open Go.RowKit

section
variable {P : Program} {ops : Array Oper} {Q : Go.Exit → Act → World → Prop}

/-- Whatever order is picked; each step leaves all that was there as it was, or is one of those that come late. -/
def anyL (late : List Nat) (P : Program) (ops : Array Oper) (Q : Go.Exit → Act → World → Prop) : Nat → Array Bool → Act → World → Prop
  | 0, listed, a, w => Region.ready .any ops listed = [] ∧ Q .normal a w
  | n + 1, listed, a, w => (Region.ready .any ops listed = [] → Q .normal a w) ∧
      ∀ i ∈ Region.ready .any ops listed, wpOp P ops Q i (fun a' w' => (ExtW w w' ∨ late.contains i = true) ∧ anyL late P ops Q n (listed.setIfInBounds i true) a' w') a w

/-- Without i no late operation can come: M has all that can. -/
def closedB (ops : Array Oper) (late M : List Nat) (i : Nat) : Bool :=
  (List.range ops.size).all fun j => j == i || match ops[j]? with
    | some oj => (oj.after.any fun e => Region.binds .any e && !M.contains e.on) || (M.contains j && !late.contains j)
    | none => true
def subB (listed : Array Bool) (M : List Nat) : Bool := (List.range listed.size).all fun k => !listed.getD k false || M.contains k

end

def VL (late : List Nat) (P : Program) (C : Ctx) (ops : Array Oper) (n : Nat) (listed : Array Bool) (K : St → Prop) (s : St) : Prop := ∀ m a w, SimM C s m a w → anyL late P ops (post0 C K) n listed a w

section
variable {late : List Nat} {P : Program} {C : Ctx} {ops : Array Oper} {K : St → Prop} {s : St} {n : Nat} {listed : Array Bool}

end
end Go.Vl

/- '==' on structs of two numbers. -/
namespace Go.Vl
set_option linter.unusedVariables false
set_option linter.unusedSimpArgs false
open Go.RowKit

/-- Structs of two numbers are compared number by number. -/
def EqI2 (P : Program) (T : TypeId) : Prop :=
  (∀ (x y x' y' : Int) (w : World), (Op.equalIn 10000 T (.agg #[.int .i64 x, .int .i64 y]) (.agg #[.int .i64 x', .int .i64 y'])).run P w = .ok (x == x' && y == y') w) ∧ P.eqGuardType P.depth T = false

section
variable {P : Program} {C : Ctx} {Q : Go.Exit → St → Prop} {s : St} {ops : Array Oper} {rest : List Oper} {t : Nat} {ty : TypeId} {pos : String} {af : Array Edge}

end
end Go.Vl

/- Operations that make new memory, in a statement whose order of evaluation is open. -/
namespace Go.Vl
set_option linter.unusedVariables false
set_option linter.unusedSimpArgs false
open Go.RowKit

/-- The operation hands back a value, and all that was there is there as it was. -/
def Xt (P : Program) (C : Ctx) (s : St) (o : Oper) (s1 : St) (sv : SV) : Prop :=
  ∀ m a w, SimM C s m a w → ∃ v w' m', (execOp a.eval o).run P w = .ok (.value v) w' ∧ SimM C s1 m' a w' ∧ RS w' (Gd C s1.rows m' w') m' s1.rows.length sv v ∧ ExtW w w'

section
variable {late : List Nat} {P : Program} {C : Ctx} {ops : Array Oper} {K : St → Prop} {s s1 : St} {n : Nat} {listed : Array Bool}

end
section
variable {P : Program} {C : Ctx} {s : St} {t : Nat} {ty : TypeId} {pos : String} {af : Array Edge}

end
end Go.Vl

/- Side conditions and plain states, by a tactic that the rule itself carries. -/
namespace Go.Vl
set_option linter.unusedVariables false
set_option linter.unusedSimpArgs false
open Go.RowKit

/-- A side condition. -/
theorem sd {p : Prop} (h : p := by first | omega | (simp only [List.length_map] <;> omega) | (simp only [List.length_map, List.length_set, List.length_append, List.length_cons, List.length_nil, List.length_replicate, List.length_take, List.length_drop] <;> omega) | (simp <;> omega) | (constructor <;> (first | omega | (simp <;> omega))) | (refine ⟨?_, ?_, ?_, ?_⟩ <;> omega) | exact ⟨xorI_nonneg _ _, by omega⟩ | decide) : p := h

section
variable {late : List Nat} {P : Program} {C : Ctx} {Q : Go.Exit → St → Prop} {K : St → Prop} {s s' : St} {ops : Array Oper} {n : Nat} {listed : Array Bool}
theorem vo_stN {l : List Oper} (next : VO P C ops l Q s') (h : s = s' := by (try simp only [St.put, exposeE, killE, SV.expose, SV.kill, Row.expose, Row.kill, rowsAfter_nil, rowsAfter_one, packS, SV.shift, placeOf, enumE, List.zip_cons_cons, List.zip_nil_right, List.map_cons, List.map_nil, List.set_cons_zero, List.set_cons_succ, List.length_cons, List.length_nil, List.cons_append, List.nil_append, List.drop_succ_cons, List.drop_zero, List.drop_nil, List.take_succ_cons, List.take_zero, List.take_nil, List.getElem?_cons_zero, List.getElem?_cons_succ, List.getElem?_nil, Option.getD_some, Option.getD_none, Option.map_some, Option.map_none, Nat.reduceAdd, Nat.reduceSub, Nat.reduceEqDiff, Nat.zero_add, Bool.true_or, PV.scal, Bool.or_false, Bool.or_true, Bool.false_or, Bool.and_true, Bool.and_false, Bool.true_and, reduceIte, reduceCtorEq]); exact eq_refl _) : VO P C ops l Q s := vo_st h next
theorem vc_stN {code : Code} (next : VC P C code Q s') (h : s = s' := by (try simp only [St.put, exposeE, killE, SV.expose, SV.kill, Row.expose, Row.kill, rowsAfter_nil, rowsAfter_one, packS, SV.shift, placeOf, enumE, List.zip_cons_cons, List.zip_nil_right, List.map_cons, List.map_nil, List.set_cons_zero, List.set_cons_succ, List.length_cons, List.length_nil, List.cons_append, List.nil_append, List.drop_succ_cons, List.drop_zero, List.drop_nil, List.take_succ_cons, List.take_zero, List.take_nil, List.getElem?_cons_zero, List.getElem?_cons_succ, List.getElem?_nil, Option.getD_some, Option.getD_none, Option.map_some, Option.map_none, Nat.reduceAdd, Nat.reduceSub, Nat.reduceEqDiff, Nat.zero_add, Bool.true_or, PV.scal, Bool.or_false, Bool.or_true, Bool.false_or, Bool.and_true, Bool.and_false, Bool.true_and, reduceIte, reduceCtorEq]); exact eq_refl _) : VC P C code Q s := vc_st h next
end
end Go.Vl

/- A call whose function's code is gone through in its place: the caller's slots wait in a row of their own. -/
namespace Go.Vl
set_option linter.unusedVariables false
set_option linter.unusedSimpArgs false
open Go.RowKit

/-- What a result holds at a function's end. -/
def resG (s : St) : Nat × Option (Nat × Nat) → SV
  | (t, none) => look s.env t
  | (a, some _) => match look s.env a with
    | .ptr id 0 0 0 => match s.rows[id]? with
      | some (.var _ cs) => match collectC cs with
        | some (f, ps) => .pv f (.agg ps)
        | none => .ag cs
      | _ => .any
    | _ => .any

/-- Is the result there? -/
def resGOK (s : St) : Nat × Option (Nat × Nat) → Bool
  | (_, none) => true
  | (a, some (_, n)) => match look s.env a with
    | .ptr id 0 0 0 => match s.rows[id]? with
      | some (.var _ cs) => Nat.beq cs.length n
      | _ => false
    | _ => false

def inQ (us : List Value) (i : Nat) (L : List Nat) (rs : List (Nat × Option (Nat × Nat))) (n t : Nat) (K : St → Prop) (e : Go.Exit) (s' : St) : Prop :=
  (e = .normal ∨ e = .ret) ∧ ∃ cs', s'.rows[i]? = some (.gh us cs') ∧ rs.all (resGOK s') = true ∧ K ⟨n, (t, packS (rs.map (resG s'))) :: L.zip cs', s'.rows.set i .dead⟩

section
variable {P : Program} {C : Ctx} {Q : Go.Exit → St → Prop} {s : St}

theorem run_resG1 {m : Nat → MV} {a : Act} {w : World} (h : SimM C s m a w) {r : Nat × Option (Nat × Nat)} (hT : resT P r) (hok : resGOK s r = true) :
    ∃ v, (resM a.tmps (resVar r)).run P w = .ok v w ∧ RS w (Gd C s.rows m w) m s.rows.length (resG s r) v := by
  obtain ⟨t, _ | ⟨T, n⟩⟩ := r
  · exact ⟨_, rfl, h.env t⟩
  · obtain ⟨D, inf, hu, hD, hinf, hsz⟩ := hT
    simp only [resGOK] at hok
    split at hok
    · rename_i id hid
      split at hok
      · rename_i R cs hrow
        have hl := Nat.eq_of_beq_eq_true hok
        have hg : getO s.env (.tmp t) = .ptr id 0 0 0 := hid
        obtain ⟨b, cur, hv, _, hbk, hcl, hr, h1⟩ := h.var hg hrow
        have hv2 : a.tmps.getD t undef = .pointer (some ⟨b, 0, none⟩) := hv
        refine ⟨.agg cur, ?_, ?_⟩
        · have e := run_loadAt_mid (P := P) w b 0 T cur.toList D (fun j v hj => by
            rw [cell_of_row w b _ cur R (0, 0) hbk]; simpa using hj) hu hD (by rw [hinf]; simp [hsz, hcl, hl])
          simp only [resVar, resM, hv2]
          simpa [Instr.loadAt, Instr.sureAddr, asAddr] using e
        · simp only [resG, hid, hrow]
          split
          · rename_i f ps hcc
            obtain ⟨c1, c2⟩ := collectC_get hcc
            refine .pv _ _ _ (.agg ps cur (by rw [hcl, c1]) (fun j p hp => ?_) (fun j p u hp hu => ?_))
            · obtain ⟨g, h3, _⟩ := c2 j p hp
              have hlt : j < cur.size := by rw [hcl]; exact (List.getElem?_eq_some_iff.1 h3).1
              have hu := Array.getElem?_eq_getElem hlt
              exact (hr _ _ _ h3 hu).pv_inv.notAgg (h1 _ _ hu)
            · obtain ⟨g, h3, h4⟩ := c2 j p hp
              exact RP.flag (G := Gd C s.rows m w) (fun b hb => hb.weak) (hr _ _ _ h3 hu).pv_inv h4
          · exact .ag cs cur hcl hr h1
      · cases hok
    · cases hok

theorem run_resGA {m : Nat → MV} {a : Act} {w : World} (h : SimM C s m a w) {fn : Func} {rs : List (Nat × Option (Nat × Nat))} (hr : fn.results = (rs.map resVar).toArray) (hl : rs.length ≤ 5)
    (hT : ∀ r ∈ rs, resT P r) (hok : rs.all (resGOK s) = true) :
    ∃ us : Array Value, (results fn a.tmps).run P w = .ok (pack us) w ∧ us.size = rs.length ∧ ∀ (j : Nat) (r : Nat × Option (Nat × Nat)), rs[j]? = some r → RS w (Gd C s.rows m w) m s.rows.length (resG s r) (us.getD j undef) := by
  rw [results_eq, hr]
  rw [List.all_eq_true] at hok
  match rs, hl with
  | [], _ => exact ⟨#[], by simp [pack], rfl, fun j r hr => by simp at hr⟩
  | [r1], _ =>
    obtain ⟨v1, h1, k1⟩ := run_resG1 (P := P) h (hT r1 (by simp)) (hok r1 (by simp))
    refine ⟨#[v1], by simp [h1, pack], rfl, fun j r hr => ?_⟩
    match j, hr with
    | 0, hr => cases hr; exact k1
  | [r1, r2], _ =>
    obtain ⟨v1, h1, k1⟩ := run_resG1 (P := P) h (hT r1 (by simp)) (hok r1 (by simp))
    obtain ⟨v2, h2, k2⟩ := run_resG1 (P := P) h (hT r2 (by simp)) (hok r2 (by simp))
    refine ⟨#[v1, v2], by simp [h1, h2, pack], rfl, fun j r hr => ?_⟩
    match j, hr with
    | 0, hr => cases hr; exact k1
    | 1, hr => cases hr; exact k2
  | [r1, r2, r3], _ =>
    obtain ⟨v1, h1, k1⟩ := run_resG1 (P := P) h (hT r1 (by simp)) (hok r1 (by simp))
    obtain ⟨v2, h2, k2⟩ := run_resG1 (P := P) h (hT r2 (by simp)) (hok r2 (by simp))
    obtain ⟨v3, h3, k3⟩ := run_resG1 (P := P) h (hT r3 (by simp)) (hok r3 (by simp))
    refine ⟨#[v1, v2, v3], by simp [h1, h2, h3, pack], rfl, fun j r hr => ?_⟩
    match j, hr with
    | 0, hr => cases hr; exact k1
    | 1, hr => cases hr; exact k2
    | 2, hr => cases hr; exact k3
  | [r1, r2, r3, r4], _ =>
    obtain ⟨v1, h1, k1⟩ := run_resG1 (P := P) h (hT r1 (by simp)) (hok r1 (by simp))
    obtain ⟨v2, h2, k2⟩ := run_resG1 (P := P) h (hT r2 (by simp)) (hok r2 (by simp))
    obtain ⟨v3, h3, k3⟩ := run_resG1 (P := P) h (hT r3 (by simp)) (hok r3 (by simp))
    obtain ⟨v4, h4, k4⟩ := run_resG1 (P := P) h (hT r4 (by simp)) (hok r4 (by simp))
    refine ⟨#[v1, v2, v3, v4], by simp [h1, h2, h3, h4, pack], rfl, fun j r hr => ?_⟩
    match j, hr with
    | 0, hr => cases hr; exact k1
    | 1, hr => cases hr; exact k2
    | 2, hr => cases hr; exact k3
    | 3, hr => cases hr; exact k4
  | [r1, r2, r3, r4, r5], _ =>
    obtain ⟨v1, h1, k1⟩ := run_resG1 (P := P) h (hT r1 (by simp)) (hok r1 (by simp))
    obtain ⟨v2, h2, k2⟩ := run_resG1 (P := P) h (hT r2 (by simp)) (hok r2 (by simp))
    obtain ⟨v3, h3, k3⟩ := run_resG1 (P := P) h (hT r3 (by simp)) (hok r3 (by simp))
    obtain ⟨v4, h4, k4⟩ := run_resG1 (P := P) h (hT r4 (by simp)) (hok r4 (by simp))
    obtain ⟨v5, h5, k5⟩ := run_resG1 (P := P) h (hT r5 (by simp)) (hok r5 (by simp))
    refine ⟨#[v1, v2, v3, v4, v5], by simp [h1, h2, h3, h4, h5, pack], rfl, fun j r hr => ?_⟩
    match j, hr with
    | 0, hr => cases hr; exact k1
    | 1, hr => cases hr; exact k2
    | 2, hr => cases hr; exact k3
    | 3, hr => cases hr; exact k4
    | 4, hr => cases hr; exact k5

end
end Go.Vl

/- '!=' on structs of two numbers. -/
namespace Go.Vl
set_option linter.unusedVariables false
set_option linter.unusedSimpArgs false
open Go.RowKit

section
variable {P : Program} {C : Ctx} {Q : Go.Exit → St → Prop} {s : St} {ops : Array Oper} {rest : List Oper} {t : Nat} {ty : TypeId} {pos : String} {af : Array Edge}

end
section
variable {P : Program}
end
end Go.Vl

/- What yields the same in every world may be taken first, whatever else comes. -/
namespace Go.Vl
set_option linter.unusedVariables false
set_option linter.unusedSimpArgs false
open Go.RowKit

section
variable {P : Program} {ops : Array Oper} {Q : Go.Exit → Act → World → Prop}

def yields0 (P : Program) (ops : Array Oper) (o : Oper) (v : Value) (a : Act) : Prop :=
  (Region.wanted o (yielded ops a.tmps) = true ∧ ∀ w, (execOp a.eval o).run P w = .ok (.value v) w) ∨ (Region.wanted o (yielded ops a.tmps) = false ∧ v = undef)

theorem yields0.step {o : Oper} {v : Value} {a a' : Act} (h : yields0 P ops o v a) (he : execOp a'.eval o = execOp a.eval o)
    (hw : Region.wanted o (yielded ops a'.tmps) = Region.wanted o (yielded ops a.tmps)) : yields0 P ops o v a' := by
  unfold yields0 at *
  rw [he, hw]
  exact h

theorem yields0.op {i : Nat} {o : Oper} {v : Value} {a : Act} {w : World} (hi : ops[i]? = some o) (hy : yields0 P ops o v a) {K : Act → World → Prop} (h : K (a.put o.dst v) w) : wpOp P ops Q i K a w := by
  unfold wpOp
  simp only [hi]
  rcases hy with ⟨hw, hv⟩ | ⟨hw, rfl⟩
  · simp only [hw, if_true, Oper.wp, hv w, Oper.upon]; exact .inl h
  · simp only [hw, Bool.false_eq_true, if_false]; exact h

end

/-- The operation hands back a value that no world changes. -/
def Lt0 (P : Program) (C : Ctx) (s : St) (o : Oper) (sv : SV) : Prop :=
  ∀ m a w, SimM C s m a w → ∃ v, (∀ w', (execOp a.eval o).run P w' = .ok (.value v) w') ∧ RS w (Gd C s.rows m w) m s.rows.length sv v

section
variable {late : List Nat} {P : Program} {C : Ctx} {ops : Array Oper} {K : St → Prop} {s : St} {n : Nat} {listed : Array Bool} {t : Nat} {ty : TypeId} {pos : String} {af : Array Edge}

end
end Go.Vl

/- A row that holds numbers alone points nowhere. -/
namespace Go.Vl
set_option linter.unusedVariables false
set_option linter.unusedSimpArgs false
open Go.RowKit

section
variable {P : Program} {C : Ctx} {Q : Go.Exit → St → Prop} {s : St} {ops : Array Oper}

end
end Go.Vl

/- Statements at which two orders of evaluation are known: what holds in whatever order holds in both. -/
namespace Go.Vl
set_option linter.unusedVariables false
set_option linter.unusedSimpArgs false
open Go.RowKit

section
variable {P : Program} {ops : Array Oper} {Q : Go.Exit → Act → World → Prop}

/-- An order in which all can come. -/
def orderB (md : Region.Mode) (ops : Array Oper) : List Nat → List Nat → Bool
  | seen, [] => (List.range ops.size).all fun j => seen.contains j
  | seen, i :: r => (match ops[i]? with
    | some o => o.after.all fun e => !Region.binds md e || seen.contains e.on
    | none => true) && orderB md ops (i :: seen) r

end

end Go.Vl

/- Elements of several cells in a row of the call's own: one cell of them, or a part that is a struct, is read. -/
namespace Go.Vl
set_option linter.unusedVariables false
set_option linter.unusedSimpArgs false
open Go.RowKit

section
variable {P : Program} {C : Ctx} {Q : Go.Exit → St → Prop} {s : St} {ops : Array Oper} {rest : List Oper} {t : Nat} {ty : TypeId} {pos : String} {af : Array Edge}

end
end Go.Vl

/- A row takes another one in and may move: 'append' of a slice that is the program's own to a row whose slices are its own. -/
namespace Go.Vl
set_option linter.unusedVariables false
set_option linter.unusedSimpArgs false
open Go.RowKit

end Go.Vl

/- Rows whose slices are their own: a slice literal of one such slice, and 'append'. -/
namespace Go.Vl
set_option linter.unusedVariables false
set_option linter.unusedSimpArgs false
open Go.RowKit

section
variable {P : Program} {C : Ctx} {Q : Go.Exit → St → Prop} {s : St} {ops : Array Oper} {rest : List Oper} {t : Nat} {ty : TypeId} {pos : String} {af : Array Edge}

end
end Go.Vl

/- A row whose slices are its own becomes a row of slices that are read alone. -/
namespace Go.Vl
set_option linter.unusedVariables false
set_option linter.unusedSimpArgs false
open Go.RowKit
section
variable {P : Program} {C : Ctx} {Q : Go.Exit → St → Prop} {s : St} {ops : Array Oper}

end
end Go.Vl

/- Structs whose cells are rows of the call's own: built, boxed, read, written. -/
namespace Go.Vl
set_option linter.unusedVariables false
set_option linter.unusedSimpArgs false
open Go.RowKit

def cellsG : SV → Option (List SV)
  | .ag ys => some ys
  | .pv f p => some (p.cells.map fun c => .pv (f || c.scal) c)
  | .ref id => some [.ref id]
  | .ptr id e i o => some [.ptr id e i o]
  | _ => none

def okG (rows : List Row) : SV → Bool
  | .ref id => match rows[id]? with
    | some r => r.live
    | none => false
  | _ => true

section
variable {P : Program} {C : Ctx} {Q : Go.Exit → St → Prop} {s : St}
variable {ops : Array Oper} {rest : List Oper} {t : Nat} {ty : TypeId} {pos : String} {af : Array Edge}

theorem row_one {w : World} {G : Bool → Nat → Prop} {m : Nat → MV} {N : Nat} {mv : MV} {r : Row} (h : RowOK w G m N mv r) (hl : r.live = true) : mv.v.oneCell' = true := by
  cases h with
  | dead => cases hl
  | gh => cases hl
  | own v t e nl fr xs vs hown => rcases hown.2 with ⟨rfl, _⟩ | ⟨g, cap, cur, rfl, _⟩ <;> rfl
  | var => rfl
  | mp => rfl
  | tree mv t e nl h xs vals Sf hown => rcases hown.2 with ⟨h, _⟩ | ⟨g, cap, cur, h, _⟩ <;> rw [h] <;> rfl

theorem cells_one {v : Value} (h : v.oneCell' = true) : v.cells = #[v] := by cases v <;> simp_all [Value.cells, Value.oneCell']

theorem SimM.cellsG {m : Nat → MV} {a : Act} {w : World} (h : SimM C s m a w) {x : Operand} {ys : List SV} (hy : cellsG (getO s.env x) = some ys) (hok : okG s.rows (getO s.env x) = true) :
    (a.eval x).cells.size = ys.length ∧ (∀ (j : Nat) (c : SV) (u : Value), ys[j]? = some c → (a.eval x).cells[j]? = some u → RS w (Gd C s.rows m w) m s.rows.length c u) ∧
      (∀ (j : Nat) (u : Value), (a.eval x).cells[j]? = some u → u.oneCell' = true) := by
  have hv := h.get x
  have one : ∀ (sv : SV) (v : Value), RS w (Gd C s.rows m w) m s.rows.length sv v → v.oneCell' = true → ys = [sv] →
      v.cells.size = ys.length ∧ (∀ (j : Nat) (c : SV) (u : Value), ys[j]? = some c → v.cells[j]? = some u → RS w (Gd C s.rows m w) m s.rows.length c u) ∧ (∀ (j : Nat) (u : Value), v.cells[j]? = some u → u.oneCell' = true) := by
    intro sv v hr h1 e
    subst e
    rw [cells_one h1]
    refine ⟨rfl, fun j c u hc hu => ?_, fun j u hu => ?_⟩
    · match j, hc, hu with
      | 0, hc, hu => simp at hc hu; subst hc; subst hu; exact hr
    · match j, hu with
      | 0, hu => simp at hu; subst hu; exact h1
  generalize getO s.env x = sv at *
  generalize a.eval x = v at *
  cases hv with
  | any => cases hy
  | val => cases hy
  | und => cases hy
  | adr => cases hy
  | tup => cases hy
  | sub => cases hy
  | ag vs us hl h9 h1 => cases hy; exact ⟨hl, h9, h1⟩
  | ref id hid =>
    simp only [Vl.cellsG, Option.some.injEq] at hy
    simp only [okG] at hok
    split at hok
    · rename_i r hr
      exact one _ _ (.ref id hid) (row_one (h.rows id r hr) hok) hy.symm
    · cases hok
  | ptr id e i o b hid hb =>
    simp only [Vl.cellsG, Option.some.injEq] at hy
    exact one _ _ (.ptr id e i o b hid hb) rfl hy.symm
  | pv fr p v hp =>
    simp only [Vl.cellsG, Option.some.injEq] at hy
    subst hy
    have hc := hp.cells
    refine ⟨by simpa using hc.1, fun j c u hcj hu => ?_, fun j u hu => ?_⟩
    · simp only [List.getElem?_map, Option.map_eq_some_iff] at hcj
      obtain ⟨c', hc', rfl⟩ := hcj
      obtain ⟨u', hu', hp'⟩ := hc.2 j c' hc'
      rw [hu] at hu'
      cases hu'
      cases hsc : c'.scal with
      | true => simp only [Bool.or_true]; exact .pv _ _ _ (hp'.scal_any hsc)
      | false => simp only [Bool.or_false]; exact .pv _ _ _ hp'
    · have hj : j < p.cells.length := by rw [← hc.1]; exact (Array.getElem?_eq_some_iff.1 hu).1
      obtain ⟨u', hu', hp'⟩ := hc.2 j _ (List.getElem?_eq_getElem hj)
      rw [hu] at hu'
      cases hu'
      refine hp'.oneCell ?_
      cases hp with
      | agg cs vs hl h1 h9 => exact h1 j _ (List.getElem?_eq_getElem hj)
      | _ => simp only [PV.cells] at hj ⊢; have : j = 0 := by simpa using hj
             subst this; rfl

def applyG (pl : List (Nat × Nat)) : List SV → List (Nat × List SV) → Option (List SV)
  | cs, [] => some cs
  | cs, (k, p) :: r => match pl[k]? with
    | some (off, sz) => bif Nat.beq p.length sz && Nat.ble (off + sz) cs.length then applyG pl (cs.take off ++ p ++ cs.drop (off + sz)) r else none
    | none => none

def collectG (env : List (Nat × SV)) (rows : List Row) : List (Nat × Operand) → Option (List (Nat × List SV))
  | [] => some []
  | (k, x) :: r => match cellsG (getO env x), collectG env rows r with
    | some ys, some ps => bif okG rows (getO env x) then some ((k, ys) :: ps) else none
    | _, _ => none

end
end Go.Vl

/- 'append' to a row whose cells' type is not known (it was taken out of another), and a tree's cell that is known. -/
namespace Go.Vl
set_option linter.unusedVariables false
set_option linter.unusedSimpArgs false
open Go.RowKit
section
variable {P : Program} {C : Ctx} {Q : Go.Exit → St → Prop} {s : St} {ops : Array Oper} {rest : List Oper} {t : Nat} {ty : TypeId} {pos : String} {af : Array Edge}

end
section
variable {late : List Nat} {P : Program} {C : Ctx} {ops : Array Oper} {K : St → Prop} {s s1 : St} {n : Nat} {listed : Array Bool}
def StepV (late : List Nat) (P : Program) (C : Ctx) (ops : Array Oper) (n : Nat) (listed : Array Bool) (K : St → Prop) (s : St) (i : Nat) : Prop :=
  ∀ m a w, SimM C s m a w → wpOp P ops (post0 C K) i (fun a' w' => (ExtW w w' ∨ late.contains i = true) ∧ anyL late P ops (post0 C K) n (listed.setIfInBounds i true) a' w') a w
end
end Go.Vl

/- Rows of structs whose slices are their own: an element's slices are taken out as rows, and put back. -/
namespace Go.Vl
set_option linter.unusedVariables false
set_option linter.unusedSimpArgs false
open Go.RowKit

def okTake : PV → Bool
  | .sl _ _ _ => true
  | c => c.scal

def takePV (c : PV) : PV := match c with
  | .sl _ _ _ => .gone
  | c => c

def takeP : PV → PV
  | .agg cs => .agg (cs.map takePV)
  | c => takePV c

def takeSV : Nat → List PV → List SV
  | _, [] => []
  | N, .sl _ _ _ :: cs => .ref N :: takeSV (N + 1) cs
  | N, c :: cs => .pv true c :: takeSV N cs

def takeRows (Rf : Nat → TypeId) : Nat → List PV → List Row
  | _, [] => []
  | k, .sl nl e xs :: cs => .tree (Rf k) e nl none xs :: takeRows Rf (k + 1) cs
  | k, _ :: cs => takeRows Rf k cs

/-- The places of the slices among cells. -/
def takePos : Nat → List PV → List Nat
  | _, [] => []
  | j, .sl _ _ _ :: cs => j :: takePos (j + 1) cs
  | j, _ :: cs => takePos (j + 1) cs

section
variable {P : Program} {C : Ctx} {Q : Go.Exit → St → Prop} {s : St} {ops : Array Oper} {rest : List Oper} {t : Nat} {ty : TypeId} {pos : String} {af : Array Edge}

end
end Go.Vl

/- An element's slices are put back into a row whose slices are its own; literals of such elements, and 'append'. -/
namespace Go.Vl
set_option linter.unusedVariables false
set_option linter.unusedSimpArgs false
open Go.RowKit

def deadAll (ks : List Nat) (rows : List Row) : List Row := ks.foldl (fun r k => r.set k .dead) rows

def refsOf : List SV → List Nat
  | [] => []
  | .ref k :: r => k :: refsOf r
  | _ :: r => refsOf r

/-- What goes into a cell. -/
def pvT (rows : List Row) : SV → Option PV
  | .pv _ c => bif c.scal then some c else none
  | .ref k => match rows[k]? with
    | some (.tree _ e nl none xs) => some (.sl nl e xs)
    | _ => none
  | _ => none

def pvTs (rows : List Row) : List SV → Option (List PV)
  | [] => some []
  | y :: ys => match pvT rows y, pvTs rows ys with
    | some p, some ps => some (p :: ps)
    | _, _ => none

/-- The blocks of a cell's own. -/
def sOf (m : Nat → MV) (ys : List SV) (j b : Nat) : Prop := ∃ k, ys[j]? = some (.ref k) ∧ (m k).S b

section
variable {P : Program} {C : Ctx} {Q : Go.Exit → St → Prop} {s : St} {ops : Array Oper} {rest : List Oper} {t : Nat} {ty : TypeId} {pos : String} {af : Array Edge}

end
end Go.Vl

/- Literals of elements whose slices are their own; 'append' of them; their plain cells. -/
namespace Go.Vl
set_option linter.unusedVariables false
set_option linter.unusedSimpArgs false
open Go.RowKit

section
variable {P : Program} {C : Ctx} {Q : Go.Exit → St → Prop} {s : St} {ops : Array Oper} {rest : List Oper} {t : Nat} {ty : TypeId} {pos : String} {af : Array Edge}

end
end Go.Vl

/- Maps from numbers to numbers that the call made itself. -/
namespace Go.Vl
set_option linter.unusedVariables false
set_option linter.unusedSimpArgs false
open Go.RowKit

def mapI (h : Int → Option Int) : Int → Option PV := fun k => (h k).map intP
def updI (h : Int → Option Int) (k v : Int) : Int → Option Int := fun j => if j = k then some v else h j
def delI (h : Int → Option Int) (k : Int) : Int → Option Int := fun j => if j = k then none else h j
def nilI : Int → Option Int := fun _ => none

section
variable {P : Program} {C : Ctx} {Q : Go.Exit → St → Prop} {s : St} {ops : Array Oper} {rest : List Oper} {t : Nat} {ty : TypeId} {pos : String} {af : Array Edge}

end
end Go.Vl

/- Parts of a slice of the call's own: 'append(x[:i], x[j:]...)', a slice cut shorter, 'clear' behind its end. -/
namespace Go.Vl
set_option linter.unusedVariables false
set_option linter.unusedSimpArgs false
open Go.RowKit

section
variable {P : Program} {C : Ctx} {Q : Go.Exit → St → Prop} {s : St} {ops : Array Oper} {rest : List Oper} {t : Nat} {ty : TypeId} {pos : String} {af : Array Edge}

theorem SimM.sub {m : Nat → MV} {a : Act} {w : World} (hs : SimM C s m a w) {x : Operand} {id e l h c : Nat} (hx : getO s.env x = .sub id e l h c) : isSub (m id).v e l h c (a.eval x) ∧ id < s.rows.length := by
  have := hs.get x
  rw [hx] at this
  generalize a.eval x = v at this
  cases this with
  | sub _ _ _ _ _ _ hid hs => exact ⟨hs, hid⟩

end
end Go.Vl

/- Loops in which some slots and some rows turn; states made plain. -/
namespace Go.Vl
set_option linter.unusedVariables false
set_option linter.unusedSimpArgs false
open Go.RowKit

def setAll : List Row → List Nat → List Row → List Row
  | rows, [], _ => rows
  | rows, _ :: _, [] => rows
  | rows, i :: is, r :: rs => setAll (rows.set i r) is rs

def pickR (rows : List Row) (ch : List Nat) : List Row := ch.map fun i => (rows[i]?).getD .dead

section
variable {P : Program} {C : Ctx} {Q : Go.Exit → St → Prop} {s : St}

def againE (N : Nat) (Lf Lv ch : List Nat) (k : Nat) (F : List SV) (R : List Row) (I : Nat → List SV → List Row → Prop) (n : Nat) (s' : St) : Prop :=
  again N (Lf ++ Lv) k (fun m us rows => us.take Lf.length = F ∧ ∃ rs, rs.length = ch.length ∧ rows = setAll R ch rs ∧ I m (us.drop Lf.length) rs) n s'

/-- A loop whose slots Lf stay as they are, and all rows but those of ch. -/
theorem vc_loopE {c : Code} (Lf Lv ch : List Nat) (F : List SV) (R : List Row) (I : Nat → List SV → List Row → Prop) (n0 : Nat) (hF : (Lf.map fun t => look s.env t) = F) (hR : s.rows = R) (hnb : C.nb ≤ R.length)
    (hb0 : F.all (SV.bdd R.length) = true ∧ (Lv.map fun t => look s.env t).all (SV.bdd R.length) = true ∧ R.all (Row.bdd R.length) = true) (hself : setAll R ch (pickR R ch) = R)
    (h0 : I n0 (Lv.map fun t => look s.env t) (pickR R ch))
    (hround : ∀ n vs rs, vs.length = Lv.length → rs.length = ch.length → I n vs rs → VC P C c (thn (againE s.n Lf Lv ch R.length F R I n) Q) ⟨s.n, Lf.zip F ++ Lv.zip vs, setAll R ch rs⟩) :
    VC P C (.loop c) Q s := by
  subst hR
  subst hF
  have hl : (Lf.map fun t => look s.env t).length = Lf.length := by simp
  refine vc_loop (Lf ++ Lv) (fun m us rows => us.take Lf.length = (Lf.map fun t => look s.env t) ∧ ∃ rs, rs.length = ch.length ∧ rows = setAll s.rows ch rs ∧ I m (us.drop Lf.length) rs) n0 hnb ⟨?_, hb0.2.2⟩ ⟨?_, pickR s.rows ch, by simp [pickR], hself.symm, ?_⟩ ?_
  · rw [List.map_append, List.all_append, hb0.1, hb0.2.1]; rfl
  · rw [List.map_append]; simp
  · rw [List.map_append, show Lf.length = (Lf.map fun t => look s.env t).length from hl.symm, List.drop_left]; exact h0
  · rintro n vs rows hv - ⟨h1, rs, hrs, rfl, h2⟩
    have hv' : vs.length = Lf.length + Lv.length := by simpa using hv
    have := hround n (vs.drop Lf.length) rs (by simp; omega) hrs h2
    have e : (Lf ++ Lv).zip vs = Lf.zip (Lf.map fun t => look s.env t) ++ Lv.zip (vs.drop Lf.length) := by
      rw [← h1]
      conv => lhs; rw [← List.take_append_drop Lf.length vs]
      exact List.zip_append (by simp; omega)
    rw [e]
    exact this

theorem againE_mk {N : Nat} {Lf Lv ch : List Nat} {k : Nat} {F : List SV} {R : List Row} {I : Nat → List SV → List Row → Prop} {n : Nat} {s' : St} (h0 : Nat.beq s'.n N = true) (h1 : Nat.ble k s'.rows.length = true)
    (h2 : ((Lf ++ Lv).map fun t => look s'.env t).all (SV.bdd k) = true) (h3 : (s'.rows.take k).all (Row.bdd k) = true)
    (hF : (Lf.map fun t => look s'.env t) = F) (hR : s'.rows.take k = setAll R ch (pickR s'.rows ch))
    (h : ∃ n', n' < n ∧ I n' (Lv.map fun t => look s'.env t) (pickR s'.rows ch)) : againE N Lf Lv ch k F R I n s' := by
  refine ⟨⟨Nat.eq_of_beq_eq_true h0, Nat.le_of_ble_eq_true h1, h2, h3⟩, ?_⟩
  obtain ⟨n', hn, hI⟩ := h
  refine ⟨n', hn, ?_, pickR s'.rows ch, by simp [pickR], hR, ?_⟩
  · rw [List.map_append, ← hF]; simp
  · rw [List.map_append, show Lf.length = (Lf.map fun t => look s'.env t).length by simp, List.drop_left]; exact hI
end

section
variable {late : List Nat} {P : Program} {C : Ctx} {Q : Go.Exit → St → Prop} {K : St → Prop} {s s' : St} {ops : Array Oper} {n : Nat} {listed : Array Bool}
theorem vo_stM {l : List Oper} (next : VO P C ops l Q s') (h : s = s' := by (try simp only [St.put, exposeE, killE, SV.expose, SV.kill, Row.expose, Row.kill, rowsAfter_nil, rowsAfter_one, packS, SV.shift, placeOf, enumE, List.zip_cons_cons, List.zip_nil_right, List.map_cons, List.map_nil, List.set_cons_zero, List.set_cons_succ, List.length_cons, List.length_nil, List.cons_append, List.nil_append, List.drop_succ_cons, List.drop_zero, List.drop_nil, List.take_succ_cons, List.take_zero, List.take_nil, List.getElem?_cons_zero, List.getElem?_cons_succ, List.getElem?_nil, Option.getD_some, Option.getD_none, Option.map_some, Option.map_none, Nat.reduceAdd, Nat.reduceSub, Nat.reduceEqDiff, Nat.zero_add, Bool.true_or, PV.scal, Bool.or_false, Bool.or_true, Bool.false_or, Bool.and_true, Bool.and_false, Bool.true_and, reduceIte, reduceCtorEq, SV.kill1, SV.expose1, deadAll, refsOf, List.foldl_cons, List.foldl_nil, takeSV, takeRows, takeP, takePV, setAll, resG, look_cons, Nat.succ.injEq, Nat.add_eq, Nat.mul_one, Nat.mul_zero, Nat.zero_mul, Nat.add_zero, List.map_map, PV.cells, Nat.reduceMul, List.append_nil, Option.some.injEq, Int.toNat_natCast]); exact eq_refl _) : VO P C ops l Q s := vo_st h next
theorem vc_stM {code : Code} (next : VC P C code Q s') (h : s = s' := by (try simp only [St.put, exposeE, killE, SV.expose, SV.kill, Row.expose, Row.kill, rowsAfter_nil, rowsAfter_one, packS, SV.shift, placeOf, enumE, List.zip_cons_cons, List.zip_nil_right, List.map_cons, List.map_nil, List.set_cons_zero, List.set_cons_succ, List.length_cons, List.length_nil, List.cons_append, List.nil_append, List.drop_succ_cons, List.drop_zero, List.drop_nil, List.take_succ_cons, List.take_zero, List.take_nil, List.getElem?_cons_zero, List.getElem?_cons_succ, List.getElem?_nil, Option.getD_some, Option.getD_none, Option.map_some, Option.map_none, Nat.reduceAdd, Nat.reduceSub, Nat.reduceEqDiff, Nat.zero_add, Bool.true_or, PV.scal, Bool.or_false, Bool.or_true, Bool.false_or, Bool.and_true, Bool.and_false, Bool.true_and, reduceIte, reduceCtorEq, SV.kill1, SV.expose1, deadAll, refsOf, List.foldl_cons, List.foldl_nil, takeSV, takeRows, takeP, takePV, setAll, resG, look_cons, Nat.succ.injEq, Nat.add_eq, Nat.mul_one, Nat.mul_zero, Nat.zero_mul, Nat.add_zero, List.map_map, PV.cells, Nat.reduceMul, List.append_nil, Option.some.injEq, Int.toNat_natCast]); exact eq_refl _) : VC P C code Q s := vc_st h next
end
end Go.Vl

/- The way into a function, and what it hands back: values, structs, and rows of its own. -/
namespace Go.Vl
set_option linter.unusedVariables false
set_option linter.unusedSimpArgs false
open Go.RowKit

def retQ (C : Ctx) (rs : List (Nat × Option (Nat × Nat))) (R : List SV → List Row → Prop) (e : Go.Exit) (s : St) : Prop :=
  (e = .normal ∨ e = .ret) ∧ rs.all (resGOK s) = true ∧ ∃ res rows', res.length = rs.length ∧ Hands C (List.range rs.length) res rows' ⟨rs.length, enumE 0 (rs.map (resG s)), s.rows⟩ ∧ R res rows'

section
variable {P : Program}

theorem sat_entry_G {f : FuncId} {fn : Func} {c : Code} {args : List SV} {rows : List Row} {R : List SV → List Row → Prop} {rs : List (Nat × Option (Nat × Nat))} (hf : P.funcs[f]? = some fn) (hb : fn.body = some c)
    (hr : fn.results = (rs.map resVar).toArray) (hl : rs.length ≤ 5) (hn : args.length ≤ fn.ntmps) (hT : ∀ r ∈ rs, resT P r)
    (h : ∀ C : Ctx, C.nb = rows.length → VC P C c (retQ C rs R) ⟨fn.ntmps, enumE 0 args, rows⟩) : SatAt P f args rows R := by
  intro C m vals hnb hA hv hs
  refine calls_of_wp hf hb ?_
  have hs2 : SimM C ⟨fn.ntmps, enumE 0 args, rows⟩ m { tmps := vals ++ Array.replicate (fn.ntmps - vals.size) undef, defers := [] } C.w0 := by
    refine { hs with size := ?_, env := fun t => ?_, defs := rfl }
    · simp; omega
    · have := hs.env t
      show RS _ _ _ _ (look (enumE 0 args) t) _
      change RS _ _ _ _ (look (enumE 0 args) t) _ at this
      by_cases ht : t < vals.size
      · have e : (vals ++ Array.replicate (fn.ntmps - vals.size) undef).getD t undef = vals.getD t undef := by
          simp [Array.getD, ht]
          intro hh; omega
        rw [e]
        exact this
      · have e : look (enumE 0 args) t = .any := by
          rw [look_enumE]
          simp
          rw [List.getElem?_eq_none (by omega)]
          rfl
        rw [e]
        exact .any _
  refine wp_mono (h C hnb _ _ ⟨m, hs2⟩) ?_
  rintro e a w' ⟨s', ⟨m', hs'⟩, he, hok, res, rows', hlen, hh, hR⟩
  obtain ⟨us, hrun, hul, hus⟩ := run_resGA (P := P) hs' hr hl hT hok
  have hs3 : SimM C ⟨rs.length, enumE 0 (rs.map (resG s')), s'.rows⟩ m' ⟨us, []⟩ w' := { hs' with
    defs := rfl
    size := hul
    env := fun t => by
      show RS _ _ _ _ (look (enumE 0 (rs.map (resG s'))) t) _
      rw [look_enumE]
      simp only [Nat.zero_le, if_true, Nat.sub_zero]
      rcases Nat.lt_or_ge t rs.length with ht | ht
      · simp only [List.getElem?_map, List.getElem?_eq_getElem ht, Option.map_some, Option.getD_some]
        exact hus t _ (List.getElem?_eq_getElem ht)
      · simp only [List.getElem?_map, List.getElem?_eq_none ht, Option.map_none, Option.getD_none]
        exact .any _ }
  obtain ⟨m2, hm2⟩ := hh m' _ w' hs3
  have hts : ((List.range rs.length).map fun t => us.getD t undef).toArray = us := by
    apply Array.ext_getElem?
    intro i
    simp only [List.getElem?_toArray, List.getElem?_map]
    rcases Nat.lt_or_ge i rs.length with hi | hi
    · rw [List.getElem?_range hi, Array.getElem?_eq_getElem (by omega)]
      simp [Array.getD, show i < us.size by omega]
    · rw [List.getElem?_eq_none (by simpa using hi), Array.getElem?_eq_none (by omega)]
      rfl
  have key : ∃ v, (results fn a.tmps).run P w' = .ok v w' ∧ (∃ (us : Array Value) (res : List SV) (rows' : List Row) (m' : Nat → MV), Ending.returned v = .returned (pack us) ∧ us.size = res.length ∧
      SimM C ⟨us.size, enumE 0 res, rows'⟩ m' ⟨us, []⟩ w' ∧ R res rows') := by
    refine ⟨_, hrun, us, res, rows', m2, rfl, by rw [hul, hlen], ?_, hR⟩
    change SimM C ⟨_, _, _⟩ m2 ⟨((List.range rs.length).map fun t => us.getD t undef).toArray, []⟩ w' at hm2
    rw [hts] at hm2
    rw [hul]
    simpa using hm2
  obtain ⟨v, hv1, hv2⟩ := key
  rcases he with rfl | rfl
  · exact ⟨hs'.defs, v, hv1, hv2⟩
  · exact ⟨hs'.defs, v, hv1, hv2⟩

theorem retQ_sel {C : Ctx} {rs : List (Nat × Option (Nat × Nat))} {R : List SV → List Row → Prop} {s : St} {e : Go.Exit} {k : Nat} (sel : List Nat) {srows : List Row} (he : e = .normal ∨ e = .ret) (hnb : C.nb = k) (hok : rs.all (resGOK s) = true) (hkl : Nat.ble k s.rows.length = true)
    (h3 : sel.map (placeOf sel) = (List.range sel.length).map some) (hsr : sel.map (fun id => s.rows[id]?) = srows.map some) (hge : sel.all (fun id => Nat.ble k id) = true) (hb1 : (s.rows.take k).all (Row.bdd k) = true) (hb2 : srows.all (Row.bdd 0) = true)
    (hR : R ((List.range rs.length).map fun t => renS k sel (look (enumE 0 (rs.map (resG s))) t)) (s.rows.take k ++ srows)) : retQ C rs R e s :=
  ⟨he, hok, _, _, by simp, hands_sel (s := ⟨rs.length, enumE 0 (rs.map (resG s)), s.rows⟩) (ts := List.range rs.length) sel hnb hkl h3 hsr hge hb1 hb2, hR⟩
end
end Go.Vl

/- A field of an element of a row is written. -/
namespace Go.Vl
set_option linter.unusedVariables false
set_option linter.unusedSimpArgs false
open Go.RowKit
section
variable {P : Program} {C : Ctx} {Q : Go.Exit → St → Prop} {s : St} {ops : Array Oper} {rest : List Oper} {t : Nat} {ty : TypeId} {pos : String} {af : Array Edge}

end
end Go.Vl

/- The facts on the types of this translation that the rules ask for. -/
namespace Go.Vl
set_option linter.unusedVariables false
set_option linter.unusedSimpArgs false
open Go.Proofs
noncomputable def ti3 : TypeInfo := (Try.prog.info? 3).getD default
theorem inf3 : Try.prog.info? 3 = some ti3 := by kernel_rfl
theorem sz3 : ti3.size = 1 := by kernel_rfl
theorem by3 : ti3.bytes = 8 := by kernel_rfl
noncomputable def ti4 : TypeInfo := (Try.prog.info? 4).getD default
noncomputable def ti5 : TypeInfo := (Try.prog.info? 5).getD default
theorem inf5 : Try.prog.info? 5 = some ti5 := by kernel_rfl
theorem sz5 : ti5.size = 1 := by kernel_rfl
theorem by5 : ti5.bytes = 1 := by kernel_rfl
noncomputable def ti22 : TypeInfo := (Try.prog.info? 22).getD default
noncomputable def ti24 : TypeInfo := (Try.prog.info? 24).getD default
noncomputable def ti31 : TypeInfo := (Try.prog.info? 31).getD default
theorem inf31 : Try.prog.info? 31 = some ti31 := by kernel_rfl
theorem sz31 : ti31.size = 1 := by kernel_rfl
noncomputable def ti36 : TypeInfo := (Try.prog.info? 36).getD default
theorem inf36 : Try.prog.info? 36 = some ti36 := by kernel_rfl
theorem sz36 : ti36.size = 1 := by kernel_rfl
theorem by36 : ti36.bytes = 24 := by kernel_rfl
noncomputable def ti43 : TypeInfo := (Try.prog.info? 43).getD default
noncomputable def ti45 : TypeInfo := (Try.prog.info? 45).getD default
noncomputable def ti48 : TypeInfo := (Try.prog.info? 48).getD default
noncomputable def ti50 : TypeInfo := (Try.prog.info? 50).getD default
noncomputable def ti54 : TypeInfo := (Try.prog.info? 54).getD default
noncomputable def ti55 : TypeInfo := (Try.prog.info? 55).getD default
noncomputable def ti57 : TypeInfo := (Try.prog.info? 57).getD default
noncomputable def ti60 : TypeInfo := (Try.prog.info? 60).getD default
noncomputable def ti62 : TypeInfo := (Try.prog.info? 62).getD default
noncomputable def ti63 : TypeInfo := (Try.prog.info? 63).getD default
noncomputable def ti65 : TypeInfo := (Try.prog.info? 65).getD default
noncomputable def ti73 : TypeInfo := (Try.prog.info? 73).getD default
noncomputable def ti84 : TypeInfo := (Try.prog.info? 84).getD default
noncomputable def ti88 : TypeInfo := (Try.prog.info? 88).getD default
noncomputable def ti90 : TypeInfo := (Try.prog.info? 90).getD default
noncomputable def ti94 : TypeInfo := (Try.prog.info? 94).getD default
noncomputable def ti107 : TypeInfo := (Try.prog.info? 107).getD default
noncomputable def ti116 : TypeInfo := (Try.prog.info? 116).getD default
noncomputable def ti118 : TypeInfo := (Try.prog.info? 118).getD default
noncomputable def ti128 : TypeInfo := (Try.prog.info? 128).getD default
noncomputable def ti150 : TypeInfo := (Try.prog.info? 150).getD default
noncomputable def ti156 : TypeInfo := (Try.prog.info? 156).getD default
noncomputable def ti158 : TypeInfo := (Try.prog.info? 158).getD default
noncomputable def ti160 : TypeInfo := (Try.prog.info? 160).getD default
noncomputable def ti167 : TypeInfo := (Try.prog.info? 167).getD default
noncomputable def ti169 : TypeInfo := (Try.prog.info? 169).getD default
noncomputable def ti171 : TypeInfo := (Try.prog.info? 171).getD default
noncomputable def ti178 : TypeInfo := (Try.prog.info? 178).getD default
noncomputable def ti180 : TypeInfo := (Try.prog.info? 180).getD default
noncomputable def ti182 : TypeInfo := (Try.prog.info? 182).getD default
noncomputable def ti183 : TypeInfo := (Try.prog.info? 183).getD default
noncomputable def ti185 : TypeInfo := (Try.prog.info? 185).getD default
noncomputable def ti186 : TypeInfo := (Try.prog.info? 186).getD default
noncomputable def ti198 : TypeInfo := (Try.prog.info? 198).getD default
noncomputable def ti200 : TypeInfo := (Try.prog.info? 200).getD default
noncomputable def ti202 : TypeInfo := (Try.prog.info? 202).getD default
noncomputable def ti208 : TypeInfo := (Try.prog.info? 208).getD default
noncomputable def ti219 : TypeInfo := (Try.prog.info? 219).getD default
noncomputable def ti225 : TypeInfo := (Try.prog.info? 225).getD default
theorem E22 : ElInfo Try.prog 22 36 1 24 (.sl (some true) 1 []) :=
  ⟨Try.underlying22, ⟨ti36, (.slice none 0 0), inf36, sz36, by36, by kernel_rfl, by kernel_rfl, fun _ _ => .nilsl _ _ (by decide)⟩, fits_of rfl, by decide⟩
theorem E31 : ElInfo Try.prog 31 5 1 1 (.int .u8 0) :=
  ⟨Try.underlying31, ⟨ti5, (.int .u8 0), inf5, sz5, by5, by kernel_rfl, by kernel_rfl, fun _ _ => .int _ _⟩, fits_of rfl, by decide⟩
theorem E36 : ElInfo Try.prog 36 3 1 8 (.int .i64 0) :=
  ⟨Try.underlying36, ⟨ti3, (.int .i64 0), inf3, sz3, by3, by kernel_rfl, by kernel_rfl, fun _ _ => .int _ _⟩, fits_of rfl, by decide⟩
theorem S150 : StInfo Try.prog 150 [(0, 1), (1, 1)] [(.sl none 1 []), (.int .i64 0)] := by
  refine ⟨⟨_, Try.underlying150⟩, #[(.slice none 0 0), (.int .i64 0)], fun l => by kernel_rfl, fun w G => .agg _ _ rfl ?_ ?_⟩
  · intro j c h
    match j, h with
    | 0, h => cases h; rfl
    | 1, h => cases h; rfl
  · intro j c u h hu
    match j, h, hu with
    | 0, h, hu => cases h; cases hu; exact .nilsl _ _ (by decide)
    | 1, h, hu => cases h; cases hu; exact .int _ _
end Go.Vl

namespace Go.Vl
set_option linter.unusedVariables false
set_option linter.unusedSimpArgs false
open Go.Proofs
theorem rows_eq {α : Type} {el : TypeId} {e : Nat} {nl : Option Bool} {f : Bool} {g : α → PV} {a b : List α} (h : a = b) : [Row.own el e nl f (List.map g a)] = [Row.own el e nl f (List.map g b)] := by rw [h]
def findM (n : Int) : List Int → Int → Int
  | [], _ => -1
  | x :: xs, i => if x = n then i else findM n xs (i+1)

theorem findM_drop (n : Int) (l : List Int) (k : Nat) (h : k < l.length) : findM n (l.drop k) k = if l.getD k 0 = n then (k : Int) else findM n (l.drop (k+1)) (k+1) := by
  rw [List.drop_eq_getElem_cons h]
  simp [findM, List.getD, List.getElem?_eq_getElem h]

theorem findM_mem (n : Int) : ∀ (l : List Int) (k : Int), 0 ≤ k → (0 ≤ findM n l k ↔ n ∈ l)
  | [], k, _ => by simp [findM]
  | x :: xs, k, h => by
    by_cases hx : x = n
    · simp [findM, hx, h]
    · have := findM_mem n xs (k+1) (by omega)
      simp [findM, hx, Ne.symm hx, this]

theorem findM_not (n : Int) (l : List Int) (k : Int) (h : 0 ≤ k) : findM n l k < 0 ↔ n ∉ l := by
  rw [← findM_mem n l k h]; omega

theorem nodup_take_succ {α : Type} {l : List α} {k : Nat} (h : k < l.length) (d : α) : (l.take (k+1)).Nodup ↔ (l.take k).Nodup ∧ l.getD k d ∉ l.take k := by
  rw [List.take_succ_eq_append_getElem h, List.nodup_append]
  simp [List.getD, List.getElem?_eq_getElem h]
  intro _
  exact ⟨fun h1 h2 => h1 _ h2 rfl, fun h1 a ha e => h1 (e ▸ ha)⟩

theorem nodup_take {α : Type} {l : List α} (k : Nat) (h : l.Nodup) : (l.take k).Nodup := (List.take_sublist k l).nodup h

theorem all_take_succ {α : Type} {p : α → Prop} {l : List α} {k : Nat} (h : k < l.length) (d : α) : (∀ x ∈ l.take (k+1), p x) ↔ (∀ x ∈ l.take k, p x) ∧ p (l.getD k d) := by
  rw [List.take_succ_eq_append_getElem h]
  simp only [List.mem_append, List.mem_singleton, or_imp, forall_and, forall_eq, List.getD, List.getElem?_eq_getElem h, Option.getD_some]

theorem getD_mem {α : Type} {l : List α} {k : Nat} (h : k < l.length) (d : α) : l.getD k d ∈ l := by
  simp [List.getD, List.getElem?_eq_getElem h]

theorem take_all {α : Type} {l : List α} {k : Nat} (h : l.length ≤ k) : l.take k = l := List.take_of_length_le h
theorem bT {P : Prop} [Decidable P] (h : P) : true = decide P := (decide_eq_true h).symm
theorem bF {P : Prop} [Decidable P] (h : ¬ P) : false = decide P := (decide_eq_false h).symm
theorem lens {b : List (List Int)} {N : Nat} (h : ∀ l ∈ b, l.length < N) (k : Nat) (hN : 0 < N) : (b.getD k []).length < N := by
  by_cases hk : k < b.length
  · exact h _ (getD_mem hk [])
  · simp [List.getD, List.getElem?_eq_none (by omega : b.length ≤ k), hN]
/-- What can be the bases of a class. -/
def CB (l : List Int) (c : Int) : Prop := l ≠ [] ∧ l.length ≤ 4 ∧ l.Nodup ∧ ∀ x ∈ l, 0 ≤ x ∧ x ≤ c - 1
instance {l : List Int} {c : Int} : Decidable (CB l c) := by unfold CB; infer_instance
/-- Bases that are valid. -/
def VB (b : List (List Int)) : Prop := 1 ≤ b.length ∧ b.length ≤ 12 ∧ b.getD 0 [] = [] ∧ ∀ i, i < b.length → 0 < i → CB (b.getD i []) i
instance {b : List (List Int)} : Decidable (VB b) := by unfold VB; infer_instance
def RB0 (l : List Int) (i : Nat) : Prop := (l.length = 0 ↔ i = 0) ∧ l.length ≤ 4 ∧ l.Nodup ∧ ∀ x ∈ l, 0 ≤ x ∧ x ≤ (i : Int) - 1
theorem vb_iff (b : List (List Int)) : VB b ↔ (1 ≤ b.length ∧ b.length ≤ 12) ∧ ∀ i, i < b.length → RB0 (b.getD i []) i := by
  constructor
  · rintro ⟨h1, h2, h3, h4⟩
    refine ⟨⟨h1, h2⟩, fun i hi => ?_⟩
    rcases Nat.eq_zero_or_pos i with rfl | h0
    · rw [h3]; simp [RB0]
    · obtain ⟨c1, c2, c3, c4⟩ := h4 i hi h0
      exact ⟨⟨fun e => absurd (List.length_eq_zero_iff.1 e) c1, fun e => by omega⟩, c2, c3, c4⟩
  · rintro ⟨⟨h1, h2⟩, h⟩
    refine ⟨h1, h2, List.length_eq_zero_iff.1 ((h 0 (by omega)).1.2 rfl), fun i hi h0 => ?_⟩
    obtain ⟨c1, c2, c3, c4⟩ := h i hi
    exact ⟨fun e => by rw [e] at c1; simp at c1; omega, c2, c3, c4⟩
/-- Lists that can be merged or kept. -/
def OKL (l : List Int) (m : Int) : Prop := (l.length : Int) ≤ m ∧ l.Nodup
instance {l : List Int} {c : Int} : Decidable (OKL l c) := by unfold OKL; infer_instance
/-- Slots that are valid. -/
def VS (b s : List (List Int)) : Prop := VB b ∧ s.length = b.length ∧ s.getD 0 [] = [] ∧ ∀ l ∈ s, OKL l 4 ∧ ∀ x ∈ l, 0 ≤ x ∧ x ≤ 9
instance {b s : List (List Int)} : Decidable (VS b s) := by unfold VS; infer_instance

theorem placeIn_sat {nl0 : Option Bool} {list : List Int} {n : Int} (hlist : list.length < 1000000000)  : SatAt Try.prog 73 [.pv false (.sl nl0 1 (list.map intP)), i64 n] [] (fun res rows => res = [i64 (findM n list 0)] ∧ rows = []) := by
  refine sat_entry (ts := [4]) Try.func73 rfl rfl (by decide) (Nat.le_of_ble_eq_true rfl) fun C hC => ?_
  rw [Try.ntmps73]
  replace hC : C.nb = 0 := hC
  refine vc_seq fun K1 hK1 => ?_
  refine vc_region ?_
  refine vo_assign_pv rfl rfl ?_
  refine vo_nil ?_
  refine hK1 _ ?_
  refine vc_seq fun K2 hK2 => ?_
  refine vc_seq fun K3 hK3 => ?_
  refine vc_region ?_
  refine vo_assign_pv rfl rfl ?_
  refine vo_nil ?_
  refine hK3 _ ?_
  refine vc_block ?_
  refine vc_stN ?_
  refine vc_loopF [0, 1] [5] [.pv false (.sl nl0 1 (list.map intP)), i64 n] _ (fun mz vs => ∃ (k : Nat), mz = list.length - k ∧ (k ≤ list.length) ∧ (findM n list 0 = findM n (list.drop k) k) ∧ vs = [i64 k]) (list.length) rfl rfl (le_len hC rfl) ⟨rfl, rfl, rfl⟩ ⟨0, rfl, Nat.zero_le _, rfl, rfl⟩ ?_
  rintro mz vs - ⟨k, rfl, hk, hf, rfl⟩
  refine vc_stN ?_
  refine vc_seq fun K4 hK4 => ?_
  refine vc_seq fun K5 hK5 => ?_
  refine vc_region ?_
  refine vo_move_pv rfl rfl ?_
  refine vo_move_pv rfl rfl ?_
  refine vo_len_pv rfl rfl Try.underlying36 ?_
  refine vo_binI rfl rfl rfl rfl trivial ?_
  refine vo_nil ?_
  refine hK5 _ ?_
  refine vc_cond rfl (fun hc1 => ?_) (fun hc1 => ?_)
  · try simp only [decide_eq_true_eq, decide_eq_false_iff_not, beq_iff_eq, bne_iff_ne, beq_eq_false_iff_ne, bne_eq_false_iff_eq, Bool.not_eq_true, Bool.not_eq_false, Bool.not_eq_eq_eq_not, Bool.not_true, Bool.not_false, List.length_map, Int.not_lt, Int.not_le, ne_eq, Decidable.not_not] at hc1
    refine vc_skip ?_
    refine hK4 _ ?_
    refine vc_seq fun K6 hK6 => ?_
    refine vc_block ?_
    refine vc_seq fun K7 hK7 => ?_
    refine vc_region ?_
    refine vo_move_pv rfl rfl ?_
    refine vo_move_pv rfl rfl ?_
    refine vo_index_pv (.int .i64 0) rfl rfl rfl E36.und inf3 sz3 sd sd ?_
    simp only [Int.toNat_natCast, Int.toNat_zero, getD_ints, getD_intss, getD_bools, getD_bytes, PV.cells]
    refine vo_load_adr rfl rfl Try.underlying3 rfl ?_
    refine vo_move_pv rfl rfl ?_
    refine vo_binI rfl rfl rfl rfl trivial ?_
    refine vo_nil ?_
    refine hK7 _ ?_
    refine vc_cond rfl (fun hc2 => ?_) (fun hc2 => ?_)
    · try simp only [decide_eq_true_eq, decide_eq_false_iff_not, beq_iff_eq, bne_iff_ne, beq_eq_false_iff_ne, bne_eq_false_iff_eq, Bool.not_eq_true, Bool.not_eq_false, Bool.not_eq_eq_eq_not, Bool.not_true, Bool.not_false, List.length_map, Int.not_lt, Int.not_le, ne_eq, Decidable.not_not] at hc2
      refine vc_seq fun K8 hK8 => ?_
      refine vc_region ?_
      refine vo_move_pv rfl rfl ?_
      refine vo_assign_pv rfl rfl ?_
      refine vo_nil ?_
      refine hK8 _ ?_
      refine vc_ret ?_
      change retPv _ _ _ _ _
      refine retPv_mk rfl rfl rfl ⟨?_, rfl⟩
      refine (congrArg (fun b => [i64 b]) (?_ : _ = _) : [i64 _] = [i64 _])
      rw [hf, findM_drop _ _ _ (by omega), if_pos (by omega)]
    · try simp only [decide_eq_true_eq, decide_eq_false_iff_not, beq_iff_eq, bne_iff_ne, beq_eq_false_iff_ne, bne_eq_false_iff_eq, Bool.not_eq_true, Bool.not_eq_false, Bool.not_eq_eq_eq_not, Bool.not_true, Bool.not_false, List.length_map, Int.not_lt, Int.not_le, ne_eq, Decidable.not_not] at hc2
      refine vc_skip ?_
      refine hK6 _ ?_
      refine vc_region ?_
      refine vo_move_pv rfl rfl ?_
      refine vo_binI rfl rfl rfl rfl sd ?_
      refine vo_assign_pv rfl rfl ?_
      refine vo_nil ?_
      change againF _ _ _ _ _ _ _ _ _
      refine againF_mk rfl rfl rfl rfl rfl rfl ⟨_, ?_, k + 1, rfl, ?_, ?_, rfl⟩
      · omega
      · omega
      · rw [hf, findM_drop _ _ _ (by omega), if_neg (by omega)]; rfl
  · try simp only [decide_eq_true_eq, decide_eq_false_iff_not, beq_iff_eq, bne_iff_ne, beq_eq_false_iff_ne, bne_eq_false_iff_eq, Bool.not_eq_true, Bool.not_eq_false, Bool.not_eq_eq_eq_not, Bool.not_true, Bool.not_false, List.length_map, Int.not_lt, Int.not_le, ne_eq, Decidable.not_not] at hc1
    refine vc_exit ?_
    refine hK2 _ ?_
    refine vc_seq fun K9 hK9 => ?_
    refine vc_region ?_
    refine vo_assign_pv rfl rfl ?_
    refine vo_nil ?_
    refine hK9 _ ?_
    refine vc_ret ?_
    change retPv _ _ _ _ _
    refine retPv_mk rfl rfl rfl ⟨?_, rfl⟩
    refine (congrArg (fun b => [i64 b]) (?_ : _ = _) : [i64 _] = [i64 _])
    rw [hf, show k = list.length by omega, List.drop_length]; rfl


theorem different_sat {nl0 : Option Bool} {list : List Int} (hlist : list.length < 1000000000)  : SatAt Try.prog 150 [.pv false (.sl nl0 1 (list.map intP))] [] (fun res rows => res = [bo (decide (list.Nodup))] ∧ rows = []) := by
  refine sat_entry (ts := [2]) Try.func150 rfl rfl (by decide) (Nat.le_of_ble_eq_true rfl) fun C hC => ?_
  rw [Try.ntmps150]
  replace hC : C.nb = 0 := hC
  refine vc_seq fun K1 hK1 => ?_
  refine vc_region ?_
  refine vo_assign_pv rfl rfl ?_
  refine vo_nil ?_
  refine hK1 _ ?_
  refine vc_seq fun K2 hK2 => ?_
  refine vc_seq fun K3 hK3 => ?_
  refine vc_region ?_
  refine vo_assign_pv rfl rfl ?_
  refine vo_nil ?_
  refine hK3 _ ?_
  refine vc_block ?_
  refine vc_stN ?_
  refine vc_loopF [0] [3] [.pv false (.sl nl0 1 (list.map intP))] _ (fun mz vs => ∃ (k : Nat), mz = list.length - k ∧ (k ≤ list.length) ∧ ((list.take k).Nodup) ∧ vs = [i64 k]) (list.length) rfl rfl (le_len hC rfl) ⟨rfl, rfl, rfl⟩ ⟨0, rfl, Nat.zero_le _, List.nodup_nil, rfl⟩ ?_
  rintro mz vs - ⟨k, rfl, hk, hf, rfl⟩
  refine vc_stN ?_
  refine vc_seq fun K4 hK4 => ?_
  refine vc_seq fun K5 hK5 => ?_
  refine vc_region ?_
  refine vo_move_pv rfl rfl ?_
  refine vo_move_pv rfl rfl ?_
  refine vo_len_pv rfl rfl Try.underlying36 ?_
  refine vo_binI rfl rfl rfl rfl trivial ?_
  refine vo_nil ?_
  refine hK5 _ ?_
  refine vc_cond rfl (fun hc1 => ?_) (fun hc1 => ?_)
  · try simp only [decide_eq_true_eq, decide_eq_false_iff_not, beq_iff_eq, bne_iff_ne, beq_eq_false_iff_ne, bne_eq_false_iff_eq, Bool.not_eq_true, Bool.not_eq_false, Bool.not_eq_eq_eq_not, Bool.not_true, Bool.not_false, List.length_map, Int.not_lt, Int.not_le, ne_eq, Decidable.not_not] at hc1
    refine vc_skip ?_
    refine hK4 _ ?_
    refine vc_seq fun K6 hK6 => ?_
    refine vc_block ?_
    refine vc_seq fun K7 hK7 => ?_
    refine vc_draw (by kernel_rfl) ?_
    change VD _ _ _ 9 _ _ _
    refine vd_light 0 rfl rfl rfl (by kernel_rfl) (by kernel_rfl) (by kernel_rfl) (wnt_none rfl) (lt_move_pv rfl) ?_
    refine vd_light 1 rfl rfl rfl (by kernel_rfl) (by kernel_rfl) (by kernel_rfl) (wnt_none rfl) (lt_move_pv rfl) ?_
    refine vd_light 2 rfl rfl rfl (by kernel_rfl) (by kernel_rfl) (by kernel_rfl) (wnt_none rfl) (lt_slice_pv rfl rfl rfl E36.und inf3 sz3 sd sd sd) ?_
    simp only [Int.toNat_natCast, Int.toNat_zero, List.drop_zero, Nat.sub_zero, ← List.map_drop, ← List.map_take]
    refine vd_light 3 rfl rfl rfl (by kernel_rfl) (by kernel_rfl) (by kernel_rfl) (wnt_none rfl) (lt_move_pv rfl) ?_
    refine vd_light 4 rfl rfl rfl (by kernel_rfl) (by kernel_rfl) (by kernel_rfl) (wnt_none rfl) (lt_move_pv rfl) ?_
    refine vd_light 5 rfl rfl rfl (by kernel_rfl) (by kernel_rfl) (by kernel_rfl) (wnt_none rfl) (lt_index_pv (.int .i64 0) rfl rfl E36.und inf3 sz3 sd sd) ?_
    simp only [Int.toNat_natCast, Int.toNat_zero, getD_ints, getD_intss, getD_bools, getD_bytes, PV.cells]
    refine vd_light 6 rfl rfl rfl (by kernel_rfl) (by kernel_rfl) (by kernel_rfl) (wnt_none rfl) (lt_load_adr rfl Try.underlying3 rfl) ?_
    refine vd_call 7 rfl (by kernel_rfl) (wnt_none rfl) Try.func73 rfl rfl rfl rfl (placeIn_sat (by simp; omega)) ?_
    rintro _ _ ⟨rfl, rfl⟩
    refine ⟨rfl, rfl, .inl rfl, ?_⟩
    refine vd_light 8 rfl rfl rfl (by kernel_rfl) (by kernel_rfl) (by kernel_rfl) (wnt_none rfl) (lt_binI rfl rfl rfl trivial) ?_
    refine vd_nil (by kernel_rfl) ?_
    refine hK7 _ ?_
    refine vc_cond rfl (fun hc2 => ?_) (fun hc2 => ?_)
    · try simp only [decide_eq_true_eq, decide_eq_false_iff_not, beq_iff_eq, bne_iff_ne, beq_eq_false_iff_ne, bne_eq_false_iff_eq, Bool.not_eq_true, Bool.not_eq_false, Bool.not_eq_eq_eq_not, Bool.not_true, Bool.not_false, List.length_map, Int.not_lt, Int.not_le, ne_eq, Decidable.not_not] at hc2
      refine vc_seq fun K8 hK8 => ?_
      refine vc_region ?_
      refine vo_assign_pv rfl rfl ?_
      refine vo_nil ?_
      refine hK8 _ ?_
      refine vc_ret ?_
      change retPv _ _ _ _ _
      refine retPv_mk rfl rfl rfl ⟨?_, rfl⟩
      refine (congrArg (fun b => [bo b]) (?_ : _ = _) : [bo _] = [bo _])
      exact bF fun h => ((nodup_take_succ (by omega) 0).1 (nodup_take (k+1) h)).2 ((findM_mem _ _ _ (by omega)).1 hc2)
    · try simp only [decide_eq_true_eq, decide_eq_false_iff_not, beq_iff_eq, bne_iff_ne, beq_eq_false_iff_ne, bne_eq_false_iff_eq, Bool.not_eq_true, Bool.not_eq_false, Bool.not_eq_eq_eq_not, Bool.not_true, Bool.not_false, List.length_map, Int.not_lt, Int.not_le, ne_eq, Decidable.not_not] at hc2
      refine vc_skip ?_
      refine hK6 _ ?_
      refine vc_region ?_
      refine vo_move_pv rfl rfl ?_
      refine vo_binI rfl rfl rfl rfl sd ?_
      refine vo_assign_pv rfl rfl ?_
      refine vo_nil ?_
      change againF _ _ _ _ _ _ _ _ _
      refine againF_mk rfl rfl rfl rfl rfl rfl ⟨_, ?_, k + 1, rfl, ?_, ?_, rfl⟩
      · omega
      · omega
      · exact (nodup_take_succ (by omega) 0).2 ⟨hf, (findM_not _ _ _ (by omega)).1 hc2⟩
  · try simp only [decide_eq_true_eq, decide_eq_false_iff_not, beq_iff_eq, bne_iff_ne, beq_eq_false_iff_ne, bne_eq_false_iff_eq, Bool.not_eq_true, Bool.not_eq_false, Bool.not_eq_eq_eq_not, Bool.not_true, Bool.not_false, List.length_map, Int.not_lt, Int.not_le, ne_eq, Decidable.not_not] at hc1
    refine vc_exit ?_
    refine hK2 _ ?_
    refine vc_seq fun K9 hK9 => ?_
    refine vc_region ?_
    refine vo_assign_pv rfl rfl ?_
    refine vo_nil ?_
    refine hK9 _ ?_
    refine vc_ret ?_
    change retPv _ _ _ _ _
    refine retPv_mk rfl rfl rfl ⟨?_, rfl⟩
    refine (congrArg (fun b => [bo b]) (?_ : _ = _) : [bo _] = [bo _])
    rw [take_all (by omega)] at hf; exact bT hf


theorem inRange_sat {n : Int} {low : Int} {high : Int}   : SatAt Try.prog 95 [i64 n, i64 low, i64 high] [] (fun res rows => res = [bo (decide (low ≤ n ∧ n ≤ high))] ∧ rows = []) := by
  refine sat_entry (ts := [6]) Try.func95 rfl rfl (by decide) (Nat.le_of_ble_eq_true rfl) fun C hC => ?_
  rw [Try.ntmps95]
  replace hC : C.nb = 0 := hC
  refine vc_seq fun K1 hK1 => ?_
  refine vc_region ?_
  refine vo_assign_pv rfl rfl ?_
  refine vo_nil ?_
  refine hK1 _ ?_
  refine vc_seq fun K2 hK2 => ?_
  refine vc_region ?_
  refine vo_move_pv rfl rfl ?_
  refine vo_move_pv rfl rfl ?_
  refine vo_binI rfl rfl rfl rfl trivial ?_
  refine vo_move_pv rfl rfl ?_
  refine vo_split 10 rfl (fun hg1 => ?_) (fun hg1 => ?_)
  · try simp only [decide_eq_true_eq, decide_eq_false_iff_not, beq_iff_eq, bne_iff_ne, beq_eq_false_iff_ne, bne_eq_false_iff_eq, Bool.not_eq_true, Bool.not_eq_false, Bool.not_eq_eq_eq_not, Bool.not_true, Bool.not_false, List.length_map, Int.not_lt, Int.not_le, ne_eq, Decidable.not_not] at hg1
    refine vo_guard_on rfl rfl rfl ?_
    refine vo_move_pv rfl rfl ?_
    refine vo_guard_on rfl rfl rfl ?_
    refine vo_move_pv rfl rfl ?_
    refine vo_guard_on rfl rfl rfl ?_
    refine vo_binI rfl rfl rfl rfl trivial ?_
    refine vo_pick_t rfl rfl ?_
    refine vo_assign_pv rfl rfl ?_
    refine vo_nil ?_
    refine hK2 _ ?_
    refine vc_ret ?_
    change retPv _ _ _ _ _
    refine retPv_mk rfl rfl rfl ⟨?_, rfl⟩
    refine (congrArg (fun b => [bo b]) (?_ : _ = _) : [bo _] = [bo _])
    simp_all <;> omega
  · try simp only [decide_eq_true_eq, decide_eq_false_iff_not, beq_iff_eq, bne_iff_ne, beq_eq_false_iff_ne, bne_eq_false_iff_eq, Bool.not_eq_true, Bool.not_eq_false, Bool.not_eq_eq_eq_not, Bool.not_true, Bool.not_false, List.length_map, Int.not_lt, Int.not_le, ne_eq, Decidable.not_not] at hg1
    refine vo_guard_off rfl rfl rfl rfl rfl ?_
    refine vo_guard_off rfl rfl rfl rfl rfl ?_
    refine vo_guard_off rfl rfl rfl rfl rfl ?_
    refine vo_pick_f rfl rfl ?_
    refine vo_assign_pv rfl rfl ?_
    refine vo_nil ?_
    refine hK2 _ ?_
    refine vc_ret ?_
    change retPv _ _ _ _ _
    refine retPv_mk rfl rfl rfl ⟨?_, rfl⟩
    refine (congrArg (fun b => [bo b]) (?_ : _ = _) : [bo _] = [bo _])
    simp_all <;> omega


theorem allIn_sat {nl0 : Option Bool} {list : List Int} {low : Int} {high : Int} (hlist : list.length < 1000000000)  : SatAt Try.prog 151 [.pv false (.sl nl0 1 (list.map intP)), i64 low, i64 high] [] (fun res rows => res = [bo (decide (∀ x ∈ list, low ≤ x ∧ x ≤ high))] ∧ rows = []) := by
  refine sat_entry (ts := [6]) Try.func151 rfl rfl (by decide) (Nat.le_of_ble_eq_true rfl) fun C hC => ?_
  rw [Try.ntmps151]
  replace hC : C.nb = 0 := hC
  refine vc_seq fun K1 hK1 => ?_
  refine vc_region ?_
  refine vo_assign_pv rfl rfl ?_
  refine vo_nil ?_
  refine hK1 _ ?_
  refine vc_seq fun K2 hK2 => ?_
  refine vc_seq fun K3 hK3 => ?_
  refine vc_region ?_
  refine vo_assign_pv rfl rfl ?_
  refine vo_nil ?_
  refine hK3 _ ?_
  refine vc_block ?_
  refine vc_stN ?_
  refine vc_loopF [0, 1, 2] [7] [.pv false (.sl nl0 1 (list.map intP)), i64 low, i64 high] _ (fun mz vs => ∃ (k : Nat), mz = list.length - k ∧ (k ≤ list.length) ∧ (∀ x ∈ list.take k, low ≤ x ∧ x ≤ high) ∧ vs = [i64 k]) (list.length) rfl rfl (le_len hC rfl) ⟨rfl, rfl, rfl⟩ ⟨0, rfl, Nat.zero_le _, (by simp), rfl⟩ ?_
  rintro mz vs - ⟨k, rfl, hk, hf, rfl⟩
  refine vc_stN ?_
  refine vc_seq fun K4 hK4 => ?_
  refine vc_seq fun K5 hK5 => ?_
  refine vc_region ?_
  refine vo_move_pv rfl rfl ?_
  refine vo_move_pv rfl rfl ?_
  refine vo_len_pv rfl rfl Try.underlying36 ?_
  refine vo_binI rfl rfl rfl rfl trivial ?_
  refine vo_nil ?_
  refine hK5 _ ?_
  refine vc_cond rfl (fun hc1 => ?_) (fun hc1 => ?_)
  · try simp only [decide_eq_true_eq, decide_eq_false_iff_not, beq_iff_eq, bne_iff_ne, beq_eq_false_iff_ne, bne_eq_false_iff_eq, Bool.not_eq_true, Bool.not_eq_false, Bool.not_eq_eq_eq_not, Bool.not_true, Bool.not_false, List.length_map, Int.not_lt, Int.not_le, ne_eq, Decidable.not_not] at hc1
    refine vc_skip ?_
    refine hK4 _ ?_
    refine vc_seq fun K6 hK6 => ?_
    refine vc_block ?_
    refine vc_seq fun K7 hK7 => ?_
    refine vc_region ?_
    refine vo_move_pv rfl rfl ?_
    refine vo_move_pv rfl rfl ?_
    refine vo_index_pv (.int .i64 0) rfl rfl rfl E36.und inf3 sz3 sd sd ?_
    simp only [Int.toNat_natCast, Int.toNat_zero, getD_ints, getD_intss, getD_bools, getD_bytes, PV.cells]
    refine vo_load_adr rfl rfl Try.underlying3 rfl ?_
    refine vo_move_pv rfl rfl ?_
    refine vo_move_pv rfl rfl ?_
    refine vo_call0 Try.func95 rfl rfl rfl rfl inRange_sat ?_
    rintro _ _ ⟨rfl, rfl⟩
    refine ⟨rfl, rfl, .inl rfl, ?_⟩
    refine vo_not rfl rfl ?_
    refine vo_nil ?_
    refine hK7 _ ?_
    refine vc_cond rfl (fun hc2 => ?_) (fun hc2 => ?_)
    · try simp only [decide_eq_true_eq, decide_eq_false_iff_not, beq_iff_eq, bne_iff_ne, beq_eq_false_iff_ne, bne_eq_false_iff_eq, Bool.not_eq_true, Bool.not_eq_false, Bool.not_eq_eq_eq_not, Bool.not_true, Bool.not_false, List.length_map, Int.not_lt, Int.not_le, ne_eq, Decidable.not_not] at hc2
      refine vc_seq fun K8 hK8 => ?_
      refine vc_region ?_
      refine vo_assign_pv rfl rfl ?_
      refine vo_nil ?_
      refine hK8 _ ?_
      refine vc_ret ?_
      change retPv _ _ _ _ _
      refine retPv_mk rfl rfl rfl ⟨?_, rfl⟩
      refine (congrArg (fun b => [bo b]) (?_ : _ = _) : [bo _] = [bo _])
      refine bF fun h => ?_
      have h1 := h _ (getD_mem (show k < list.length by omega) 0)
      simp_all
    · try simp only [decide_eq_true_eq, decide_eq_false_iff_not, beq_iff_eq, bne_iff_ne, beq_eq_false_iff_ne, bne_eq_false_iff_eq, Bool.not_eq_true, Bool.not_eq_false, Bool.not_eq_eq_eq_not, Bool.not_true, Bool.not_false, List.length_map, Int.not_lt, Int.not_le, ne_eq, Decidable.not_not] at hc2
      refine vc_skip ?_
      refine hK6 _ ?_
      refine vc_region ?_
      refine vo_move_pv rfl rfl ?_
      refine vo_binI rfl rfl rfl rfl sd ?_
      refine vo_assign_pv rfl rfl ?_
      refine vo_nil ?_
      change againF _ _ _ _ _ _ _ _ _
      refine againF_mk rfl rfl rfl rfl rfl rfl ⟨_, ?_, k + 1, rfl, ?_, ?_, rfl⟩
      · omega
      · omega
      · exact (all_take_succ (by omega) 0).2 ⟨hf, by simpa using hc2⟩
  · try simp only [decide_eq_true_eq, decide_eq_false_iff_not, beq_iff_eq, bne_iff_ne, beq_eq_false_iff_ne, bne_eq_false_iff_eq, Bool.not_eq_true, Bool.not_eq_false, Bool.not_eq_eq_eq_not, Bool.not_true, Bool.not_false, List.length_map, Int.not_lt, Int.not_le, ne_eq, Decidable.not_not] at hc1
    refine vc_exit ?_
    refine hK2 _ ?_
    refine vc_seq fun K9 hK9 => ?_
    refine vc_region ?_
    refine vo_assign_pv rfl rfl ?_
    refine vo_nil ?_
    refine hK9 _ ?_
    refine vc_ret ?_
    change retPv _ _ _ _ _
    refine retPv_mk rfl rfl rfl ⟨?_, rfl⟩
    refine (congrArg (fun b => [bo b]) (?_ : _ = _) : [bo _] = [bo _])
    rw [take_all (by omega)] at hf; exact bT hf


theorem specValidBases0_sat {nl0 : Option Bool} {bases : List (List Int)} (hbases : bases.length < 1000000000) (hlbases : ∀ l ∈ bases, l.length < 1000000000)  : SatAt Try.prog 119 [.pv false (.sl nl0 1 (bases.map ints))] [] (fun res rows => res = [bo (decide (VB bases))] ∧ rows = []) := by
  refine sat_entry (ts := [2]) Try.func119 rfl rfl (by decide) (Nat.le_of_ble_eq_true rfl) fun C hC => ?_
  rw [Try.ntmps119]
  replace hC : C.nb = 0 := hC
  refine vc_seq fun K1 hK1 => ?_
  refine vc_region ?_
  refine vo_assign_pv rfl rfl ?_
  refine vo_nil ?_
  refine hK1 _ ?_
  refine vc_seq fun K2 hK2 => ?_
  refine vc_seq fun K3 hK3 => ?_
  refine vc_region ?_
  refine vo_assign_pv rfl rfl ?_
  refine vo_nil ?_
  refine hK3 _ ?_
  refine vc_block ?_
  refine vc_stN ?_
  refine vc_loopF [0] [3] [.pv false (.sl nl0 1 (bases.map ints))] _ (fun mz vs => ∃ (k : Nat), mz = bases.length - k ∧ (k ≤ bases.length) ∧ (∀ i, i < k → RB0 (bases.getD i []) i) ∧ vs = [i64 k]) (bases.length) rfl rfl (le_len hC rfl) ⟨rfl, rfl, rfl⟩ ⟨0, rfl, Nat.zero_le _, (fun i h1 => by omega), rfl⟩ ?_
  rintro mz vs - ⟨k, rfl, hk, hf, rfl⟩
  refine vc_stN ?_
  refine vc_seq fun K4 hK4 => ?_
  refine vc_seq fun K5 hK5 => ?_
  refine vc_region ?_
  refine vo_move_pv rfl rfl ?_
  refine vo_move_pv rfl rfl ?_
  refine vo_len_pv rfl rfl Try.underlying22 ?_
  refine vo_binI rfl rfl rfl rfl trivial ?_
  refine vo_nil ?_
  refine hK5 _ ?_
  refine vc_cond rfl (fun hc1 => ?_) (fun hc1 => ?_)
  · try simp only [decide_eq_true_eq, decide_eq_false_iff_not, beq_iff_eq, bne_iff_ne, beq_eq_false_iff_ne, bne_eq_false_iff_eq, Bool.not_eq_true, Bool.not_eq_false, Bool.not_eq_eq_eq_not, Bool.not_true, Bool.not_false, List.length_map, Int.not_lt, Int.not_le, ne_eq, Decidable.not_not] at hc1
    refine vc_skip ?_
    refine hK4 _ ?_
    refine vc_seq fun K6 hK6 => ?_
    refine vc_block ?_
    refine vc_seq fun K7 hK7 => ?_
    refine vc_region ?_
    refine vo_move_pv rfl rfl ?_
    refine vo_move_pv rfl rfl ?_
    refine vo_index_pv (.sl none 1 []) rfl rfl rfl E22.und inf36 sz36 sd sd ?_
    simp only [Int.toNat_natCast, Int.toNat_zero, getD_ints, getD_intss, getD_bools, getD_bytes, PV.cells]
    refine vo_load_adr rfl rfl Try.underlying36 rfl ?_
    refine vo_len_pv rfl rfl Try.underlying36 ?_
    refine vo_binI rfl rfl rfl rfl trivial ?_
    refine vo_move_pv rfl rfl ?_
    refine vo_binI rfl rfl rfl rfl trivial ?_
    refine vo_binB rfl rfl rfl rfl Try.underlying4 ?_
    refine vo_move_pv rfl rfl ?_
    refine vo_split 19 rfl (fun hg2 => ?_) (fun hg2 => ?_)
    · try simp only [decide_eq_true_eq, decide_eq_false_iff_not, beq_iff_eq, bne_iff_ne, beq_eq_false_iff_ne, bne_eq_false_iff_eq, Bool.not_eq_true, Bool.not_eq_false, Bool.not_eq_eq_eq_not, Bool.not_true, Bool.not_false, List.length_map, Int.not_lt, Int.not_le, ne_eq, Decidable.not_not] at hg2
      rw [Bool.eq_iff_iff, beq_iff_eq, beq_iff_eq] at hg2
      refine vo_guard_off rfl rfl rfl rfl rfl ?_
      refine vo_guard_off rfl rfl rfl rfl rfl ?_
      refine vo_guard_off rfl rfl rfl rfl rfl ?_
      refine vo_guard_off rfl rfl rfl rfl rfl ?_
      refine vo_guard_off rfl rfl rfl rfl rfl ?_
      refine vo_guard_off rfl rfl rfl rfl rfl ?_
      refine vo_pick_t rfl rfl ?_
      refine vo_move_pv rfl rfl ?_
      refine vo_guard_off rfl rfl rfl rfl rfl ?_
      refine vo_guard_off rfl rfl rfl rfl rfl ?_
      refine vo_guard_off rfl rfl rfl rfl rfl ?_
      refine vo_guard_off rfl rfl rfl rfl rfl ?_
      refine vo_guard_off rfl rfl rfl rfl rfl ?_
      refine vo_guard_off rfl rfl rfl rfl rfl ?_
      refine vo_pick_t rfl rfl ?_
      refine vo_move_pv rfl rfl ?_
      refine vo_guard_off rfl rfl rfl rfl rfl ?_
      refine vo_guard_off rfl rfl rfl rfl rfl ?_
      refine vo_guard_off rfl rfl rfl rfl rfl ?_
      refine vo_guard_off rfl rfl rfl rfl rfl ?_
      refine vo_guard_off rfl rfl rfl rfl rfl ?_
      refine vo_guard_off rfl rfl rfl rfl rfl ?_
      refine vo_guard_off rfl rfl rfl rfl rfl ?_
      refine vo_guard_off rfl rfl rfl rfl rfl ?_
      refine vo_pick_t rfl rfl ?_
      refine vo_nil ?_
      refine hK7 _ ?_
      refine vc_cond_t rfl ?_
      refine vc_seq fun K8 hK8 => ?_
      refine vc_region ?_
      refine vo_assign_pv rfl rfl ?_
      refine vo_nil ?_
      refine hK8 _ ?_
      refine vc_ret ?_
      change retPv _ _ _ _ _
      refine retPv_mk rfl rfl rfl ⟨?_, rfl⟩
      refine (congrArg (fun b => [bo b]) (?_ : _ = _) : [bo _] = [bo _])
      exact bF fun h => by have := (((vb_iff _).1 h).2 k (by omega)).1; omega
    · try simp only [decide_eq_true_eq, decide_eq_false_iff_not, beq_iff_eq, bne_iff_ne, beq_eq_false_iff_ne, bne_eq_false_iff_eq, Bool.not_eq_true, Bool.not_eq_false, Bool.not_eq_eq_eq_not, Bool.not_true, Bool.not_false, List.length_map, Int.not_lt, Int.not_le, ne_eq, Decidable.not_not] at hg2
      rw [Bool.eq_iff_iff, beq_iff_eq, beq_iff_eq] at hg2
      refine vo_guard_on rfl rfl rfl ?_
      refine vo_move_pv rfl rfl ?_
      refine vo_guard_on rfl rfl rfl ?_
      refine vo_move_pv rfl rfl ?_
      refine vo_guard_on rfl rfl rfl ?_
      refine vo_index_pv (.sl none 1 []) rfl rfl rfl E22.und inf36 sz36 sd sd ?_
      simp only [Int.toNat_natCast, Int.toNat_zero, getD_ints, getD_intss, getD_bools, getD_bytes, PV.cells]
      refine vo_guard_on rfl rfl rfl ?_
      refine vo_load_adr rfl rfl Try.underlying36 rfl ?_
      refine vo_guard_on rfl rfl rfl ?_
      refine vo_len_pv rfl rfl Try.underlying36 ?_
      refine vo_guard_on rfl rfl rfl ?_
      refine vo_binI rfl rfl rfl rfl trivial ?_
      refine vo_pick_f rfl rfl ?_
      refine vo_move_pv rfl rfl ?_
      refine vo_split 27 rfl (fun hg3 => ?_) (fun hg3 => ?_)
      · try simp only [decide_eq_true_eq, decide_eq_false_iff_not, beq_iff_eq, bne_iff_ne, beq_eq_false_iff_ne, bne_eq_false_iff_eq, Bool.not_eq_true, Bool.not_eq_false, Bool.not_eq_eq_eq_not, Bool.not_true, Bool.not_false, List.length_map, Int.not_lt, Int.not_le, ne_eq, Decidable.not_not] at hg3
        refine vo_guard_off rfl rfl rfl rfl rfl ?_
        refine vo_guard_off rfl rfl rfl rfl rfl ?_
        refine vo_guard_off rfl rfl rfl rfl rfl ?_
        refine vo_guard_off rfl rfl rfl rfl rfl ?_
        refine vo_guard_off rfl rfl rfl rfl rfl ?_
        refine vo_guard_off rfl rfl rfl rfl rfl ?_
        refine vo_pick_t rfl rfl ?_
        refine vo_move_pv rfl rfl ?_
        refine vo_guard_off rfl rfl rfl rfl rfl ?_
        refine vo_guard_off rfl rfl rfl rfl rfl ?_
        refine vo_guard_off rfl rfl rfl rfl rfl ?_
        refine vo_guard_off rfl rfl rfl rfl rfl ?_
        refine vo_guard_off rfl rfl rfl rfl rfl ?_
        refine vo_guard_off rfl rfl rfl rfl rfl ?_
        refine vo_guard_off rfl rfl rfl rfl rfl ?_
        refine vo_guard_off rfl rfl rfl rfl rfl ?_
        refine vo_pick_t rfl rfl ?_
        refine vo_nil ?_
        refine hK7 _ ?_
        refine vc_cond_t rfl ?_
        refine vc_seq fun K9 hK9 => ?_
        refine vc_region ?_
        refine vo_assign_pv rfl rfl ?_
        refine vo_nil ?_
        refine hK9 _ ?_
        refine vc_ret ?_
        change retPv _ _ _ _ _
        refine retPv_mk rfl rfl rfl ⟨?_, rfl⟩
        refine (congrArg (fun b => [bo b]) (?_ : _ = _) : [bo _] = [bo _])
        exact bF fun h => by have := (((vb_iff _).1 h).2 k (by omega)).2.1; omega
      · try simp only [decide_eq_true_eq, decide_eq_false_iff_not, beq_iff_eq, bne_iff_ne, beq_eq_false_iff_ne, bne_eq_false_iff_eq, Bool.not_eq_true, Bool.not_eq_false, Bool.not_eq_eq_eq_not, Bool.not_true, Bool.not_false, List.length_map, Int.not_lt, Int.not_le, ne_eq, Decidable.not_not] at hg3
        refine vo_guard_on rfl rfl rfl ?_
        refine vo_move_pv rfl rfl ?_
        refine vo_guard_on rfl rfl rfl ?_
        refine vo_move_pv rfl rfl ?_
        refine vo_guard_on rfl rfl rfl ?_
        refine vo_index_pv (.sl none 1 []) rfl rfl rfl E22.und inf36 sz36 sd sd ?_
        simp only [Int.toNat_natCast, Int.toNat_zero, getD_ints, getD_intss, getD_bools, getD_bytes, PV.cells]
        refine vo_guard_on rfl rfl rfl ?_
        refine vo_load_adr rfl rfl Try.underlying36 rfl ?_
        refine vo_guard_on rfl rfl rfl ?_
        refine vo_call0 Try.func150 rfl rfl rfl rfl (different_sat (lens hlbases _ (by omega))) ?_
        rintro _ _ ⟨rfl, rfl⟩
        refine ⟨rfl, rfl, .inl rfl, ?_⟩
        refine vo_guard_on rfl rfl rfl ?_
        refine vo_not rfl rfl ?_
        refine vo_pick_f rfl rfl ?_
        refine vo_move_pv rfl rfl ?_
        refine vo_split 35 rfl (fun hg4 => ?_) (fun hg4 => ?_)
        · try simp only [decide_eq_true_eq, decide_eq_false_iff_not, beq_iff_eq, bne_iff_ne, beq_eq_false_iff_ne, bne_eq_false_iff_eq, Bool.not_eq_true, Bool.not_eq_false, Bool.not_eq_eq_eq_not, Bool.not_true, Bool.not_false, List.length_map, Int.not_lt, Int.not_le, ne_eq, Decidable.not_not] at hg4
          refine vo_guard_off rfl rfl rfl rfl rfl ?_
          refine vo_guard_off rfl rfl rfl rfl rfl ?_
          refine vo_guard_off rfl rfl rfl rfl rfl ?_
          refine vo_guard_off rfl rfl rfl rfl rfl ?_
          refine vo_guard_off rfl rfl rfl rfl rfl ?_
          refine vo_guard_off rfl rfl rfl rfl rfl ?_
          refine vo_guard_off rfl rfl rfl rfl rfl ?_
          refine vo_guard_off rfl rfl rfl rfl rfl ?_
          refine vo_pick_t rfl rfl ?_
          refine vo_nil ?_
          refine hK7 _ ?_
          refine vc_cond_t rfl ?_
          refine vc_seq fun K10 hK10 => ?_
          refine vc_region ?_
          refine vo_assign_pv rfl rfl ?_
          refine vo_nil ?_
          refine hK10 _ ?_
          refine vc_ret ?_
          change retPv _ _ _ _ _
          refine retPv_mk rfl rfl rfl ⟨?_, rfl⟩
          refine (congrArg (fun b => [bo b]) (?_ : _ = _) : [bo _] = [bo _])
          exact bF fun h => hg4 (((vb_iff _).1 h).2 k (by omega)).2.2.1
        · try simp only [decide_eq_true_eq, decide_eq_false_iff_not, beq_iff_eq, bne_iff_ne, beq_eq_false_iff_ne, bne_eq_false_iff_eq, Bool.not_eq_true, Bool.not_eq_false, Bool.not_eq_eq_eq_not, Bool.not_true, Bool.not_false, List.length_map, Int.not_lt, Int.not_le, ne_eq, Decidable.not_not] at hg4
          refine vo_guard_on rfl rfl rfl ?_
          refine vo_move_pv rfl rfl ?_
          refine vo_guard_on rfl rfl rfl ?_
          refine vo_move_pv rfl rfl ?_
          refine vo_guard_on rfl rfl rfl ?_
          refine vo_index_pv (.sl none 1 []) rfl rfl rfl E22.und inf36 sz36 sd sd ?_
          simp only [Int.toNat_natCast, Int.toNat_zero, getD_ints, getD_intss, getD_bools, getD_bytes, PV.cells]
          refine vo_guard_on rfl rfl rfl ?_
          refine vo_load_adr rfl rfl Try.underlying36 rfl ?_
          refine vo_guard_on rfl rfl rfl ?_
          refine vo_move_pv rfl rfl ?_
          refine vo_guard_on rfl rfl rfl ?_
          refine vo_binI rfl rfl rfl rfl sd ?_
          refine vo_guard_on rfl rfl rfl ?_
          refine vo_call0 Try.func151 rfl rfl rfl rfl (allIn_sat (lens hlbases _ (by omega))) ?_
          rintro _ _ ⟨rfl, rfl⟩
          refine ⟨rfl, rfl, .inl rfl, ?_⟩
          refine vo_guard_on rfl rfl rfl ?_
          refine vo_not rfl rfl ?_
          refine vo_pick_f rfl rfl ?_
          refine vo_nil ?_
          refine hK7 _ ?_
          refine vc_cond rfl (fun hc5 => ?_) (fun hc5 => ?_)
          · try simp only [decide_eq_true_eq, decide_eq_false_iff_not, beq_iff_eq, bne_iff_ne, beq_eq_false_iff_ne, bne_eq_false_iff_eq, Bool.not_eq_true, Bool.not_eq_false, Bool.not_eq_eq_eq_not, Bool.not_true, Bool.not_false, List.length_map, Int.not_lt, Int.not_le, ne_eq, Decidable.not_not] at hc5
            refine vc_seq fun K11 hK11 => ?_
            refine vc_region ?_
            refine vo_assign_pv rfl rfl ?_
            refine vo_nil ?_
            refine hK11 _ ?_
            refine vc_ret ?_
            change retPv _ _ _ _ _
            refine retPv_mk rfl rfl rfl ⟨?_, rfl⟩
            refine (congrArg (fun b => [bo b]) (?_ : _ = _) : [bo _] = [bo _])
            exact bF fun h => hc5 (((vb_iff _).1 h).2 k (by omega)).2.2.2
          · try simp only [decide_eq_true_eq, decide_eq_false_iff_not, beq_iff_eq, bne_iff_ne, beq_eq_false_iff_ne, bne_eq_false_iff_eq, Bool.not_eq_true, Bool.not_eq_false, Bool.not_eq_eq_eq_not, Bool.not_true, Bool.not_false, List.length_map, Int.not_lt, Int.not_le, ne_eq, Decidable.not_not] at hc5
            refine vc_skip ?_
            refine hK6 _ ?_
            refine vc_region ?_
            refine vo_move_pv rfl rfl ?_
            refine vo_binI rfl rfl rfl rfl sd ?_
            refine vo_assign_pv rfl rfl ?_
            refine vo_nil ?_
            change againF _ _ _ _ _ _ _ _ _
            refine againF_mk rfl rfl rfl rfl rfl rfl ⟨_, ?_, k + 1, rfl, ?_, ?_, rfl⟩
            · omega
            · omega
            · intro i hi; rcases Nat.lt_or_ge i k with h1 | h1; exact hf i h1; rw [show i = k by omega]; exact ⟨by omega, by omega, hg4, hc5⟩
  · try simp only [decide_eq_true_eq, decide_eq_false_iff_not, beq_iff_eq, bne_iff_ne, beq_eq_false_iff_ne, bne_eq_false_iff_eq, Bool.not_eq_true, Bool.not_eq_false, Bool.not_eq_eq_eq_not, Bool.not_true, Bool.not_false, List.length_map, Int.not_lt, Int.not_le, ne_eq, Decidable.not_not] at hc1
    refine vc_exit ?_
    refine hK2 _ ?_
    refine vc_seq fun K12 hK12 => ?_
    refine vc_region ?_
    refine vo_move_pv rfl rfl ?_
    refine vo_len_pv rfl rfl Try.underlying22 ?_
    refine vo_call0 Try.func95 rfl rfl rfl rfl inRange_sat ?_
    rintro _ _ ⟨rfl, rfl⟩
    refine ⟨rfl, rfl, .inl rfl, ?_⟩
    refine vo_assign_pv rfl rfl ?_
    refine vo_nil ?_
    refine hK12 _ ?_
    refine vc_ret ?_
    change retPv _ _ _ _ _
    refine retPv_mk rfl rfl rfl ⟨?_, rfl⟩
    refine (congrArg (fun b => [bo b]) (?_ : _ = _) : [bo _] = [bo _])
    exact decide_eq_decide.2 ⟨fun h => (vb_iff _).2 ⟨by simp at h; omega, fun i hi => hf i (by omega)⟩, fun h => by have := ((vb_iff _).1 h).1; simp; omega⟩


theorem Index_sat {nl0 : Option Bool} {s : List Int} {v : Int} (hs : s.length < 1000000000)  : SatAt Try.prog 118 [.pv false (.sl nl0 1 (s.map intP)), i64 v] [] (fun res rows => res = [i64 (findM v s 0)] ∧ rows = []) := by
  refine sat_entry (ts := [4]) Try.func118 rfl rfl (by decide) (Nat.le_of_ble_eq_true rfl) fun C hC => ?_
  rw [Try.ntmps118]
  replace hC : C.nb = 0 := hC
  refine vc_seq fun K1 hK1 => ?_
  refine vc_region ?_
  refine vo_assign_pv rfl rfl ?_
  refine vo_nil ?_
  refine hK1 _ ?_
  refine vc_seq fun K2 hK2 => ?_
  refine vc_seq fun K3 hK3 => ?_
  refine vc_region ?_
  refine vo_move_pv rfl rfl ?_
  refine vo_len_pv rfl rfl Try.underlying36 ?_
  refine vo_move_pv rfl rfl ?_
  refine vo_nil ?_
  refine hK3 _ ?_
  refine vc_block ?_
  refine vc_stN ?_
  refine vc_loopF [0, 1, 7] [8] [.pv false (.sl nl0 1 (s.map intP)), i64 v, i64 (s.map intP).length] _ (fun mz vs => ∃ (k : Nat), mz = s.length - k ∧ (k ≤ s.length) ∧ (findM v s 0 = findM v (s.drop k) k) ∧ vs = [i64 k]) (s.length) rfl rfl (le_len hC rfl) ⟨rfl, rfl, rfl⟩ ⟨0, rfl, Nat.zero_le _, rfl, rfl⟩ ?_
  rintro mz vs - ⟨k, rfl, hk, hf, rfl⟩
  refine vc_stN ?_
  refine vc_seq fun K4 hK4 => ?_
  refine vc_region ?_
  refine vo_binI rfl rfl rfl rfl trivial ?_
  refine vo_nil ?_
  refine hK4 _ ?_
  refine vc_seq fun K5 hK5 => ?_
  refine vc_cond rfl (fun hc1 => ?_) (fun hc1 => ?_)
  · try simp only [decide_eq_true_eq, decide_eq_false_iff_not, beq_iff_eq, bne_iff_ne, beq_eq_false_iff_ne, bne_eq_false_iff_eq, Bool.not_eq_true, Bool.not_eq_false, Bool.not_eq_eq_eq_not, Bool.not_true, Bool.not_false, List.length_map, Int.not_lt, Int.not_le, ne_eq, Decidable.not_not] at hc1
    refine vc_skip ?_
    refine hK5 _ ?_
    refine vc_seq fun K6 hK6 => ?_
    refine vc_block ?_
    refine vc_seq fun K7 hK7 => ?_
    refine vc_region ?_
    refine vo_move_pv rfl rfl ?_
    refine vo_assign_pv rfl rfl ?_
    refine vo_nil ?_
    refine hK7 _ ?_
    refine vc_seq fun K8 hK8 => ?_
    refine vc_region ?_
    refine vo_move_pv rfl rfl ?_
    refine vo_move_pv rfl rfl ?_
    refine vo_move_pv rfl rfl ?_
    refine vo_index_pv (.int .i64 0) rfl rfl rfl E36.und inf3 sz3 sd sd ?_
    simp only [Int.toNat_natCast, Int.toNat_zero, getD_ints, getD_intss, getD_bools, getD_bytes, PV.cells]
    refine vo_load_adr rfl rfl Try.underlying3 rfl ?_
    refine vo_binI rfl rfl rfl rfl trivial ?_
    refine vo_nil ?_
    refine hK8 _ ?_
    refine vc_cond rfl (fun hc2 => ?_) (fun hc2 => ?_)
    · try simp only [decide_eq_true_eq, decide_eq_false_iff_not, beq_iff_eq, bne_iff_ne, beq_eq_false_iff_ne, bne_eq_false_iff_eq, Bool.not_eq_true, Bool.not_eq_false, Bool.not_eq_eq_eq_not, Bool.not_true, Bool.not_false, List.length_map, Int.not_lt, Int.not_le, ne_eq, Decidable.not_not] at hc2
      refine vc_seq fun K9 hK9 => ?_
      refine vc_region ?_
      refine vo_move_pv rfl rfl ?_
      refine vo_assign_pv rfl rfl ?_
      refine vo_nil ?_
      refine hK9 _ ?_
      refine vc_ret ?_
      change retPv _ _ _ _ _
      refine retPv_mk rfl rfl rfl ⟨?_, rfl⟩
      refine (congrArg (fun b => [i64 b]) (?_ : _ = _) : [i64 _] = [i64 _])
      rw [hf, findM_drop _ _ _ (by omega), if_pos (by omega)]
    · try simp only [decide_eq_true_eq, decide_eq_false_iff_not, beq_iff_eq, bne_iff_ne, beq_eq_false_iff_ne, bne_eq_false_iff_eq, Bool.not_eq_true, Bool.not_eq_false, Bool.not_eq_eq_eq_not, Bool.not_true, Bool.not_false, List.length_map, Int.not_lt, Int.not_le, ne_eq, Decidable.not_not] at hc2
      refine vc_skip ?_
      refine hK6 _ ?_
      refine vc_region ?_
      refine vo_binI rfl rfl rfl rfl sd ?_
      refine vo_move_pv rfl rfl ?_
      refine vo_nil ?_
      change againF _ _ _ _ _ _ _ _ _
      refine againF_mk rfl rfl rfl rfl rfl rfl ⟨_, ?_, k + 1, rfl, ?_, ?_, rfl⟩
      · omega
      · omega
      · rw [hf, findM_drop _ _ _ (by omega), if_neg (by omega)]; rfl
  · try simp only [decide_eq_true_eq, decide_eq_false_iff_not, beq_iff_eq, bne_iff_ne, beq_eq_false_iff_ne, bne_eq_false_iff_eq, Bool.not_eq_true, Bool.not_eq_false, Bool.not_eq_eq_eq_not, Bool.not_true, Bool.not_false, List.length_map, Int.not_lt, Int.not_le, ne_eq, Decidable.not_not] at hc1
    refine vc_exit ?_
    refine hK2 _ ?_
    refine vc_seq fun K10 hK10 => ?_
    refine vc_region ?_
    refine vo_assign_pv rfl rfl ?_
    refine vo_nil ?_
    refine hK10 _ ?_
    refine vc_ret ?_
    change retPv _ _ _ _ _
    refine retPv_mk rfl rfl rfl ⟨?_, rfl⟩
    refine (congrArg (fun b => [i64 b]) (?_ : _ = _) : [i64 _] = [i64 _])
    rw [hf, show k = s.length by omega, List.drop_length]; rfl


theorem Contains_sat {nl0 : Option Bool} {s : List Int} {v : Int} (hs : s.length < 1000000000)  : SatAt Try.prog 158 [.pv false (.sl nl0 1 (s.map intP)), i64 v] [] (fun res rows => res = [bo (decide (v ∈ s))] ∧ rows = []) := by
  refine sat_entry (ts := [4]) Try.func158 rfl rfl (by decide) (Nat.le_of_ble_eq_true rfl) fun C hC => ?_
  rw [Try.ntmps158]
  replace hC : C.nb = 0 := hC
  refine vc_seq fun K1 hK1 => ?_
  refine vc_region ?_
  refine vo_assign_pv rfl rfl ?_
  refine vo_nil ?_
  refine hK1 _ ?_
  refine vc_seq fun K2 hK2 => ?_
  refine vc_region ?_
  refine vo_move_pv rfl rfl ?_
  refine vo_move_pv rfl rfl ?_
  refine vo_call0 Try.func118 rfl rfl rfl rfl (Index_sat hs) ?_
  rintro _ _ ⟨rfl, rfl⟩
  refine ⟨rfl, rfl, .inl rfl, ?_⟩
  refine vo_binI rfl rfl rfl rfl trivial ?_
  refine vo_assign_pv rfl rfl ?_
  refine vo_nil ?_
  refine hK2 _ ?_
  refine vc_ret ?_
  change retPv _ _ _ _ _
  refine retPv_mk rfl rfl rfl ⟨?_, rfl⟩
  refine (congrArg (fun b => [bo b]) (?_ : _ = _) : [bo _] = [bo _])
  exact decide_eq_decide.2 (findM_mem _ _ _ (by omega))


theorem isList_sat {nl0 : Option Bool} {list : List Int} {most : Int} (hlist : list.length < 1000000000)  : SatAt Try.prog 122 [.pv false (.sl nl0 1 (list.map intP)), i64 most] [] (fun res rows => res = [bo (decide (OKL list most))] ∧ rows = []) := by
  refine sat_entry (ts := [4]) Try.func122 rfl rfl (by decide) (Nat.le_of_ble_eq_true rfl) fun C hC => ?_
  rw [Try.ntmps122]
  replace hC : C.nb = 0 := hC
  refine vc_seq fun K1 hK1 => ?_
  refine vc_region ?_
  refine vo_assign_pv rfl rfl ?_
  refine vo_nil ?_
  refine hK1 _ ?_
  refine vc_seq fun K2 hK2 => ?_
  refine vc_seq fun K3 hK3 => ?_
  refine vc_region ?_
  refine vo_move_pv rfl rfl ?_
  refine vo_len_pv rfl rfl Try.underlying36 ?_
  refine vo_move_pv rfl rfl ?_
  refine vo_binI rfl rfl rfl rfl trivial ?_
  refine vo_nil ?_
  refine hK3 _ ?_
  refine vc_cond rfl (fun hc1 => ?_) (fun hc1 => ?_)
  · try simp only [decide_eq_true_eq, decide_eq_false_iff_not, beq_iff_eq, bne_iff_ne, beq_eq_false_iff_ne, bne_eq_false_iff_eq, Bool.not_eq_true, Bool.not_eq_false, Bool.not_eq_eq_eq_not, Bool.not_true, Bool.not_false, List.length_map, Int.not_lt, Int.not_le, ne_eq, Decidable.not_not] at hc1
    refine vc_seq fun K4 hK4 => ?_
    refine vc_region ?_
    refine vo_assign_pv rfl rfl ?_
    refine vo_nil ?_
    refine hK4 _ ?_
    refine vc_ret ?_
    change retPv _ _ _ _ _
    refine retPv_mk rfl rfl rfl ⟨?_, rfl⟩
    refine (congrArg (fun b => [bo b]) (?_ : _ = _) : [bo _] = [bo _])
    exact bF fun h => by have := h.1; omega
  · try simp only [decide_eq_true_eq, decide_eq_false_iff_not, beq_iff_eq, bne_iff_ne, beq_eq_false_iff_ne, bne_eq_false_iff_eq, Bool.not_eq_true, Bool.not_eq_false, Bool.not_eq_eq_eq_not, Bool.not_true, Bool.not_false, List.length_map, Int.not_lt, Int.not_le, ne_eq, Decidable.not_not] at hc1
    refine vc_skip ?_
    refine hK2 _ ?_
    refine vc_seq fun K5 hK5 => ?_
    refine vc_seq fun K6 hK6 => ?_
    refine vc_region ?_
    refine vo_move_pv rfl rfl ?_
    refine vo_len_pv rfl rfl Try.underlying36 ?_
    refine vo_move_pv rfl rfl ?_
    refine vo_nil ?_
    refine hK6 _ ?_
    refine vc_block ?_
    refine vc_stN ?_
    refine vc_loopF [0, 11, 12] [13] [.pv false (.sl nl0 1 (list.map intP)), .pv false (.sl nl0 1 (list.map intP)), i64 (list.map intP).length] _ (fun mz vs => ∃ (k : Nat), mz = list.length - k ∧ (k ≤ list.length) ∧ ((list.take k).Nodup) ∧ vs = [i64 k]) (list.length) rfl rfl (le_len hC rfl) ⟨rfl, rfl, rfl⟩ ⟨0, rfl, Nat.zero_le _, List.nodup_nil, rfl⟩ ?_
    rintro mz vs - ⟨k, rfl, hk, hf, rfl⟩
    refine vc_stN ?_
    refine vc_seq fun K7 hK7 => ?_
    refine vc_region ?_
    refine vo_binI rfl rfl rfl rfl trivial ?_
    refine vo_nil ?_
    refine hK7 _ ?_
    refine vc_seq fun K8 hK8 => ?_
    refine vc_cond rfl (fun hc2 => ?_) (fun hc2 => ?_)
    · try simp only [decide_eq_true_eq, decide_eq_false_iff_not, beq_iff_eq, bne_iff_ne, beq_eq_false_iff_ne, bne_eq_false_iff_eq, Bool.not_eq_true, Bool.not_eq_false, Bool.not_eq_eq_eq_not, Bool.not_true, Bool.not_false, List.length_map, Int.not_lt, Int.not_le, ne_eq, Decidable.not_not] at hc2
      refine vc_skip ?_
      refine hK8 _ ?_
      refine vc_seq fun K9 hK9 => ?_
      refine vc_block ?_
      refine vc_seq fun K10 hK10 => ?_
      refine vc_region ?_
      refine vo_move_pv rfl rfl ?_
      refine vo_index_pv (.int .i64 0) rfl rfl rfl E36.und inf3 sz3 sd sd ?_
      simp only [Int.toNat_natCast, Int.toNat_zero, getD_ints, getD_intss, getD_bools, getD_bytes, PV.cells]
      refine vo_load_adr rfl rfl Try.underlying3 rfl ?_
      refine vo_assign_pv rfl rfl ?_
      refine vo_assign_pv rfl rfl ?_
      refine vo_nil ?_
      refine hK10 _ ?_
      refine vc_seq fun K11 hK11 => ?_
      refine vc_region ?_
      refine vo_move_pv rfl rfl ?_
      refine vo_move_pv rfl rfl ?_
      refine vo_slice_pv rfl rfl rfl rfl E36.und inf3 sz3 sd sd sd ?_
      simp only [Int.toNat_natCast, Int.toNat_zero, List.drop_zero, Nat.sub_zero, ← List.map_drop, ← List.map_take]
      refine vo_move_pv rfl rfl ?_
      refine vo_call0 Try.func158 rfl rfl rfl rfl (Contains_sat (by simp; omega)) ?_
      rintro _ _ ⟨rfl, rfl⟩
      refine ⟨rfl, rfl, .inl rfl, ?_⟩
      refine vo_nil ?_
      refine hK11 _ ?_
      refine vc_cond rfl (fun hc3 => ?_) (fun hc3 => ?_)
      · try simp only [decide_eq_true_eq, decide_eq_false_iff_not, beq_iff_eq, bne_iff_ne, beq_eq_false_iff_ne, bne_eq_false_iff_eq, Bool.not_eq_true, Bool.not_eq_false, Bool.not_eq_eq_eq_not, Bool.not_true, Bool.not_false, List.length_map, Int.not_lt, Int.not_le, ne_eq, Decidable.not_not] at hc3
        refine vc_seq fun K12 hK12 => ?_
        refine vc_region ?_
        refine vo_assign_pv rfl rfl ?_
        refine vo_nil ?_
        refine hK12 _ ?_
        refine vc_ret ?_
        change retPv _ _ _ _ _
        refine retPv_mk rfl rfl rfl ⟨?_, rfl⟩
        refine (congrArg (fun b => [bo b]) (?_ : _ = _) : [bo _] = [bo _])
        exact bF fun h => ((nodup_take_succ (by omega) 0).1 (nodup_take (k+1) h.2)).2 hc3
      · try simp only [decide_eq_true_eq, decide_eq_false_iff_not, beq_iff_eq, bne_iff_ne, beq_eq_false_iff_ne, bne_eq_false_iff_eq, Bool.not_eq_true, Bool.not_eq_false, Bool.not_eq_eq_eq_not, Bool.not_true, Bool.not_false, List.length_map, Int.not_lt, Int.not_le, ne_eq, Decidable.not_not] at hc3
        refine vc_skip ?_
        refine hK9 _ ?_
        refine vc_region ?_
        refine vo_binI rfl rfl rfl rfl sd ?_
        refine vo_move_pv rfl rfl ?_
        refine vo_nil ?_
        change againF _ _ _ _ _ _ _ _ _
        refine againF_mk rfl rfl rfl rfl rfl rfl ⟨_, ?_, k + 1, rfl, ?_, ?_, rfl⟩
        · omega
        · omega
        · exact (nodup_take_succ (by omega) 0).2 ⟨hf, hc3⟩
    · try simp only [decide_eq_true_eq, decide_eq_false_iff_not, beq_iff_eq, bne_iff_ne, beq_eq_false_iff_ne, bne_eq_false_iff_eq, Bool.not_eq_true, Bool.not_eq_false, Bool.not_eq_eq_eq_not, Bool.not_true, Bool.not_false, List.length_map, Int.not_lt, Int.not_le, ne_eq, Decidable.not_not] at hc2
      refine vc_exit ?_
      refine hK5 _ ?_
      refine vc_seq fun K13 hK13 => ?_
      refine vc_region ?_
      refine vo_assign_pv rfl rfl ?_
      refine vo_nil ?_
      refine hK13 _ ?_
      refine vc_ret ?_
      change retPv _ _ _ _ _
      refine retPv_mk rfl rfl rfl ⟨?_, rfl⟩
      refine (congrArg (fun b => [bo b]) (?_ : _ = _) : [bo _] = [bo _])
      rw [take_all (by omega)] at hf; exact bT ⟨by omega, hf⟩


theorem isUpTo_sat {n : Int} {most : Int}   : SatAt Try.prog 108 [i64 n, i64 most] [] (fun res rows => res = [bo (decide (0 ≤ n ∧ n ≤ most))] ∧ rows = []) := by
  refine sat_entry (ts := [4]) Try.func108 rfl rfl (by decide) (Nat.le_of_ble_eq_true rfl) fun C hC => ?_
  rw [Try.ntmps108]
  replace hC : C.nb = 0 := hC
  refine vc_seq fun K1 hK1 => ?_
  refine vc_region ?_
  refine vo_assign_pv rfl rfl ?_
  refine vo_nil ?_
  refine hK1 _ ?_
  refine vc_seq fun K2 hK2 => ?_
  refine vc_region ?_
  refine vo_move_pv rfl rfl ?_
  refine vo_binI rfl rfl rfl rfl trivial ?_
  refine vo_move_pv rfl rfl ?_
  refine vo_split 7 rfl (fun hg1 => ?_) (fun hg1 => ?_)
  · try simp only [decide_eq_true_eq, decide_eq_false_iff_not, beq_iff_eq, bne_iff_ne, beq_eq_false_iff_ne, bne_eq_false_iff_eq, Bool.not_eq_true, Bool.not_eq_false, Bool.not_eq_eq_eq_not, Bool.not_true, Bool.not_false, List.length_map, Int.not_lt, Int.not_le, ne_eq, Decidable.not_not] at hg1
    refine vo_guard_on rfl rfl rfl ?_
    refine vo_move_pv rfl rfl ?_
    refine vo_guard_on rfl rfl rfl ?_
    refine vo_move_pv rfl rfl ?_
    refine vo_guard_on rfl rfl rfl ?_
    refine vo_binI rfl rfl rfl rfl trivial ?_
    refine vo_pick_t rfl rfl ?_
    refine vo_assign_pv rfl rfl ?_
    refine vo_nil ?_
    refine hK2 _ ?_
    refine vc_ret ?_
    change retPv _ _ _ _ _
    refine retPv_mk rfl rfl rfl ⟨?_, rfl⟩
    refine (congrArg (fun b => [bo b]) (?_ : _ = _) : [bo _] = [bo _])
    simp_all <;> omega
  · try simp only [decide_eq_true_eq, decide_eq_false_iff_not, beq_iff_eq, bne_iff_ne, beq_eq_false_iff_ne, bne_eq_false_iff_eq, Bool.not_eq_true, Bool.not_eq_false, Bool.not_eq_eq_eq_not, Bool.not_true, Bool.not_false, List.length_map, Int.not_lt, Int.not_le, ne_eq, Decidable.not_not] at hg1
    refine vo_guard_off rfl rfl rfl rfl rfl ?_
    refine vo_guard_off rfl rfl rfl rfl rfl ?_
    refine vo_guard_off rfl rfl rfl rfl rfl ?_
    refine vo_pick_f rfl rfl ?_
    refine vo_assign_pv rfl rfl ?_
    refine vo_nil ?_
    refine hK2 _ ?_
    refine vc_ret ?_
    change retPv _ _ _ _ _
    refine retPv_mk rfl rfl rfl ⟨?_, rfl⟩
    refine (congrArg (fun b => [bo b]) (?_ : _ = _) : [bo _] = [bo _])
    simp_all <;> omega


theorem areUpTo_sat {nl0 : Option Bool} {list : List Int} {most : Int} (hlist : list.length < 1000000000)  : SatAt Try.prog 123 [.pv false (.sl nl0 1 (list.map intP)), i64 most] [] (fun res rows => res = [bo (decide (∀ x ∈ list, 0 ≤ x ∧ x ≤ most))] ∧ rows = []) := by
  refine sat_entry (ts := [4]) Try.func123 rfl rfl (by decide) (Nat.le_of_ble_eq_true rfl) fun C hC => ?_
  rw [Try.ntmps123]
  replace hC : C.nb = 0 := hC
  refine vc_seq fun K1 hK1 => ?_
  refine vc_region ?_
  refine vo_assign_pv rfl rfl ?_
  refine vo_nil ?_
  refine hK1 _ ?_
  refine vc_seq fun K2 hK2 => ?_
  refine vc_seq fun K3 hK3 => ?_
  refine vc_region ?_
  refine vo_move_pv rfl rfl ?_
  refine vo_len_pv rfl rfl Try.underlying36 ?_
  refine vo_move_pv rfl rfl ?_
  refine vo_nil ?_
  refine hK3 _ ?_
  refine vc_block ?_
  refine vc_stN ?_
  refine vc_loopF [1, 7, 8] [9] [i64 most, .pv false (.sl nl0 1 (list.map intP)), i64 (list.map intP).length] _ (fun mz vs => ∃ (k : Nat), mz = list.length - k ∧ (k ≤ list.length) ∧ (∀ x ∈ list.take k, 0 ≤ x ∧ x ≤ most) ∧ vs = [i64 k]) (list.length) rfl rfl (le_len hC rfl) ⟨rfl, rfl, rfl⟩ ⟨0, rfl, Nat.zero_le _, (by simp), rfl⟩ ?_
  rintro mz vs - ⟨k, rfl, hk, hf, rfl⟩
  refine vc_stN ?_
  refine vc_seq fun K4 hK4 => ?_
  refine vc_region ?_
  refine vo_binI rfl rfl rfl rfl trivial ?_
  refine vo_nil ?_
  refine hK4 _ ?_
  refine vc_seq fun K5 hK5 => ?_
  refine vc_cond rfl (fun hc1 => ?_) (fun hc1 => ?_)
  · try simp only [decide_eq_true_eq, decide_eq_false_iff_not, beq_iff_eq, bne_iff_ne, beq_eq_false_iff_ne, bne_eq_false_iff_eq, Bool.not_eq_true, Bool.not_eq_false, Bool.not_eq_eq_eq_not, Bool.not_true, Bool.not_false, List.length_map, Int.not_lt, Int.not_le, ne_eq, Decidable.not_not] at hc1
    refine vc_skip ?_
    refine hK5 _ ?_
    refine vc_seq fun K6 hK6 => ?_
    refine vc_block ?_
    refine vc_seq fun K7 hK7 => ?_
    refine vc_region ?_
    refine vo_index_pv (.int .i64 0) rfl rfl rfl E36.und inf3 sz3 sd sd ?_
    simp only [Int.toNat_natCast, Int.toNat_zero, getD_ints, getD_intss, getD_bools, getD_bytes, PV.cells]
    refine vo_load_adr rfl rfl Try.underlying3 rfl ?_
    refine vo_assign_pv rfl rfl ?_
    refine vo_nil ?_
    refine hK7 _ ?_
    refine vc_seq fun K8 hK8 => ?_
    refine vc_region ?_
    refine vo_move_pv rfl rfl ?_
    refine vo_move_pv rfl rfl ?_
    refine vo_call0 Try.func108 rfl rfl rfl rfl isUpTo_sat ?_
    rintro _ _ ⟨rfl, rfl⟩
    refine ⟨rfl, rfl, .inl rfl, ?_⟩
    refine vo_not rfl rfl ?_
    refine vo_nil ?_
    refine hK8 _ ?_
    refine vc_cond rfl (fun hc2 => ?_) (fun hc2 => ?_)
    · try simp only [decide_eq_true_eq, decide_eq_false_iff_not, beq_iff_eq, bne_iff_ne, beq_eq_false_iff_ne, bne_eq_false_iff_eq, Bool.not_eq_true, Bool.not_eq_false, Bool.not_eq_eq_eq_not, Bool.not_true, Bool.not_false, List.length_map, Int.not_lt, Int.not_le, ne_eq, Decidable.not_not] at hc2
      refine vc_seq fun K9 hK9 => ?_
      refine vc_region ?_
      refine vo_assign_pv rfl rfl ?_
      refine vo_nil ?_
      refine hK9 _ ?_
      refine vc_ret ?_
      change retPv _ _ _ _ _
      refine retPv_mk rfl rfl rfl ⟨?_, rfl⟩
      refine (congrArg (fun b => [bo b]) (?_ : _ = _) : [bo _] = [bo _])
      exact bF fun h => by have := h _ (getD_mem (show k < list.length by omega) 0); first | contradiction | omega
    · try simp only [decide_eq_true_eq, decide_eq_false_iff_not, beq_iff_eq, bne_iff_ne, beq_eq_false_iff_ne, bne_eq_false_iff_eq, Bool.not_eq_true, Bool.not_eq_false, Bool.not_eq_eq_eq_not, Bool.not_true, Bool.not_false, List.length_map, Int.not_lt, Int.not_le, ne_eq, Decidable.not_not] at hc2
      refine vc_skip ?_
      refine hK6 _ ?_
      refine vc_region ?_
      refine vo_binI rfl rfl rfl rfl sd ?_
      refine vo_move_pv rfl rfl ?_
      refine vo_nil ?_
      change againF _ _ _ _ _ _ _ _ _
      refine againF_mk rfl rfl rfl rfl rfl rfl ⟨_, ?_, k + 1, rfl, ?_, ?_, rfl⟩
      · omega
      · omega
      · exact (all_take_succ (by omega) 0).2 ⟨hf, by first | assumption | omega⟩
  · try simp only [decide_eq_true_eq, decide_eq_false_iff_not, beq_iff_eq, bne_iff_ne, beq_eq_false_iff_ne, bne_eq_false_iff_eq, Bool.not_eq_true, Bool.not_eq_false, Bool.not_eq_eq_eq_not, Bool.not_true, Bool.not_false, List.length_map, Int.not_lt, Int.not_le, ne_eq, Decidable.not_not] at hc1
    refine vc_exit ?_
    refine hK2 _ ?_
    refine vc_seq fun K10 hK10 => ?_
    refine vc_region ?_
    refine vo_assign_pv rfl rfl ?_
    refine vo_nil ?_
    refine hK10 _ ?_
    refine vc_ret ?_
    change retPv _ _ _ _ _
    refine retPv_mk rfl rfl rfl ⟨?_, rfl⟩
    refine (congrArg (fun b => [bo b]) (?_ : _ = _) : [bo _] = [bo _])
    rw [take_all (by omega)] at hf; exact bT hf


theorem canBeBases_sat {nl0 : Option Bool} {list : List Int} {c : Int} (hlist : list.length < 1000000000) (hc : -1000000 < c ∧ c < 1000000) : SatAt Try.prog 74 [.pv false (.sl nl0 1 (list.map intP)), i64 c] [] (fun res rows => res = [bo (decide (CB list c))] ∧ rows = []) := by
  refine sat_entry (ts := [4]) Try.func74 rfl rfl (by decide) (Nat.le_of_ble_eq_true rfl) fun C hC => ?_
  rw [Try.ntmps74]
  replace hC : C.nb = 0 := hC
  refine vc_seq fun K1 hK1 => ?_
  refine vc_region ?_
  refine vo_assign_pv rfl rfl ?_
  refine vo_nil ?_
  refine hK1 _ ?_
  refine vc_seq fun K2 hK2 => ?_
  refine vc_region ?_
  refine vo_move_pv rfl rfl ?_
  refine vo_len_pv rfl rfl Try.underlying36 ?_
  refine vo_binI rfl rfl rfl rfl trivial ?_
  refine vo_move_pv rfl rfl ?_
  refine vo_split 8 rfl (fun hg1 => ?_) (fun hg1 => ?_)
  · try simp only [decide_eq_true_eq, decide_eq_false_iff_not, beq_iff_eq, bne_iff_ne, beq_eq_false_iff_ne, bne_eq_false_iff_eq, Bool.not_eq_true, Bool.not_eq_false, Bool.not_eq_eq_eq_not, Bool.not_true, Bool.not_false, List.length_map, Int.not_lt, Int.not_le, ne_eq, Decidable.not_not] at hg1
    refine vo_guard_on rfl rfl rfl ?_
    refine vo_move_pv rfl rfl ?_
    refine vo_guard_on rfl rfl rfl ?_
    refine vo_call0 Try.func122 rfl rfl rfl rfl (isList_sat hlist) ?_
    rintro _ _ ⟨rfl, rfl⟩
    refine ⟨rfl, rfl, .inl rfl, ?_⟩
    refine vo_pick_t rfl rfl ?_
    refine vo_move_pv rfl rfl ?_
    refine vo_split 12 rfl (fun hg2 => ?_) (fun hg2 => ?_)
    · try simp only [decide_eq_true_eq, decide_eq_false_iff_not, beq_iff_eq, bne_iff_ne, beq_eq_false_iff_ne, bne_eq_false_iff_eq, Bool.not_eq_true, Bool.not_eq_false, Bool.not_eq_eq_eq_not, Bool.not_true, Bool.not_false, List.length_map, Int.not_lt, Int.not_le, ne_eq, Decidable.not_not] at hg2
      refine vo_guard_on rfl rfl rfl ?_
      refine vo_move_pv rfl rfl ?_
      refine vo_guard_on rfl rfl rfl ?_
      refine vo_move_pv rfl rfl ?_
      refine vo_guard_on rfl rfl rfl ?_
      refine vo_binI rfl rfl rfl rfl sd ?_
      refine vo_guard_on rfl rfl rfl ?_
      refine vo_call0 Try.func123 rfl rfl rfl rfl (areUpTo_sat hlist) ?_
      rintro _ _ ⟨rfl, rfl⟩
      refine ⟨rfl, rfl, .inl rfl, ?_⟩
      refine vo_pick_t rfl rfl ?_
      refine vo_assign_pv rfl rfl ?_
      refine vo_nil ?_
      refine hK2 _ ?_
      refine vc_ret ?_
      change retPv _ _ _ _ _
      refine retPv_mk rfl rfl rfl ⟨?_, rfl⟩
      refine (congrArg (fun b => [bo b]) (?_ : _ = _) : [bo _] = [bo _])
      exact decide_eq_decide.2 ⟨fun h => ⟨fun e => by simp [e] at hg1, by have := hg2.1; omega, hg2.2, h⟩, fun h => h.2.2.2⟩
    · try simp only [decide_eq_true_eq, decide_eq_false_iff_not, beq_iff_eq, bne_iff_ne, beq_eq_false_iff_ne, bne_eq_false_iff_eq, Bool.not_eq_true, Bool.not_eq_false, Bool.not_eq_eq_eq_not, Bool.not_true, Bool.not_false, List.length_map, Int.not_lt, Int.not_le, ne_eq, Decidable.not_not] at hg2
      refine vo_guard_off rfl rfl rfl rfl rfl ?_
      refine vo_guard_off rfl rfl rfl rfl rfl ?_
      refine vo_guard_off rfl rfl rfl rfl rfl ?_
      refine vo_guard_off rfl rfl rfl rfl rfl ?_
      refine vo_pick_f rfl rfl ?_
      refine vo_assign_pv rfl rfl ?_
      refine vo_nil ?_
      refine hK2 _ ?_
      refine vc_ret ?_
      change retPv _ _ _ _ _
      refine retPv_mk rfl rfl rfl ⟨?_, rfl⟩
      refine (congrArg (fun b => [bo b]) (?_ : _ = _) : [bo _] = [bo _])
      exact bF fun h => hg2 ⟨by have := h.2.1; omega, h.2.2.1⟩
  · try simp only [decide_eq_true_eq, decide_eq_false_iff_not, beq_iff_eq, bne_iff_ne, beq_eq_false_iff_ne, bne_eq_false_iff_eq, Bool.not_eq_true, Bool.not_eq_false, Bool.not_eq_eq_eq_not, Bool.not_true, Bool.not_false, List.length_map, Int.not_lt, Int.not_le, ne_eq, Decidable.not_not] at hg1
    refine vo_guard_off rfl rfl rfl rfl rfl ?_
    refine vo_guard_off rfl rfl rfl rfl rfl ?_
    refine vo_pick_f rfl rfl ?_
    refine vo_move_pv rfl rfl ?_
    refine vo_guard_off rfl rfl rfl rfl rfl ?_
    refine vo_guard_off rfl rfl rfl rfl rfl ?_
    refine vo_guard_off rfl rfl rfl rfl rfl ?_
    refine vo_guard_off rfl rfl rfl rfl rfl ?_
    refine vo_pick_f rfl rfl ?_
    refine vo_assign_pv rfl rfl ?_
    refine vo_nil ?_
    refine hK2 _ ?_
    refine vc_ret ?_
    change retPv _ _ _ _ _
    refine retPv_mk rfl rfl rfl ⟨?_, rfl⟩
    refine (congrArg (fun b => [bo b]) (?_ : _ = _) : [bo _] = [bo _])
    exact bF fun h => h.1 (List.length_eq_zero_iff.1 (by omega))


theorem implValidBases_sat {nl0 : Option Bool} {bases : List (List Int)} (hbases : bases.length < 1000000000) (hlbases : ∀ l ∈ bases, l.length < 1000000000)  : SatAt Try.prog 26 [.pv false (.sl nl0 1 (bases.map ints))] [] (fun res rows => res = [bo (decide (VB bases))] ∧ rows = []) := by
  refine sat_entry (ts := [2]) Try.func26 rfl rfl (by decide) (Nat.le_of_ble_eq_true rfl) fun C hC => ?_
  rw [Try.ntmps26]
  replace hC : C.nb = 0 := hC
  refine vc_seq fun K1 hK1 => ?_
  refine vc_region ?_
  refine vo_assign_pv rfl rfl ?_
  refine vo_nil ?_
  refine hK1 _ ?_
  refine vc_seq fun K2 hK2 => ?_
  refine vc_seq fun K3 hK3 => ?_
  refine vc_region ?_
  refine vo_move_pv rfl rfl ?_
  refine vo_len_pv rfl rfl Try.underlying22 ?_
  refine vo_binI rfl rfl rfl rfl trivial ?_
  refine vo_move_pv rfl rfl ?_
  refine vo_split 7 rfl (fun hg1 => ?_) (fun hg1 => ?_)
  · try simp only [decide_eq_true_eq, decide_eq_false_iff_not, beq_iff_eq, bne_iff_ne, beq_eq_false_iff_ne, bne_eq_false_iff_eq, Bool.not_eq_true, Bool.not_eq_false, Bool.not_eq_eq_eq_not, Bool.not_true, Bool.not_false, List.length_map, Int.not_lt, Int.not_le, ne_eq, Decidable.not_not] at hg1
    refine vo_guard_off rfl rfl rfl rfl rfl ?_
    refine vo_guard_off rfl rfl rfl rfl rfl ?_
    refine vo_guard_off rfl rfl rfl rfl rfl ?_
    refine vo_pick_t rfl rfl ?_
    refine vo_move_pv rfl rfl ?_
    refine vo_guard_off rfl rfl rfl rfl rfl ?_
    refine vo_guard_off rfl rfl rfl rfl rfl ?_
    refine vo_guard_off rfl rfl rfl rfl rfl ?_
    refine vo_guard_off rfl rfl rfl rfl rfl ?_
    refine vo_guard_off rfl rfl rfl rfl rfl ?_
    refine vo_pick_t rfl rfl ?_
    refine vo_nil ?_
    refine hK3 _ ?_
    refine vc_cond_t rfl ?_
    refine vc_seq fun K4 hK4 => ?_
    refine vc_region ?_
    refine vo_assign_pv rfl rfl ?_
    refine vo_nil ?_
    refine hK4 _ ?_
    refine vc_ret ?_
    change retPv _ _ _ _ _
    refine retPv_mk rfl rfl rfl ⟨?_, rfl⟩
    refine (congrArg (fun b => [bo b]) (?_ : _ = _) : [bo _] = [bo _])
    exact bF fun h => by have := h.1; omega
  · try simp only [decide_eq_true_eq, decide_eq_false_iff_not, beq_iff_eq, bne_iff_ne, beq_eq_false_iff_ne, bne_eq_false_iff_eq, Bool.not_eq_true, Bool.not_eq_false, Bool.not_eq_eq_eq_not, Bool.not_true, Bool.not_false, List.length_map, Int.not_lt, Int.not_le, ne_eq, Decidable.not_not] at hg1
    refine vo_guard_on rfl rfl rfl ?_
    refine vo_move_pv rfl rfl ?_
    refine vo_guard_on rfl rfl rfl ?_
    refine vo_len_pv rfl rfl Try.underlying22 ?_
    refine vo_guard_on rfl rfl rfl ?_
    refine vo_binI rfl rfl rfl rfl trivial ?_
    refine vo_pick_f rfl rfl ?_
    refine vo_move_pv rfl rfl ?_
    refine vo_split 12 rfl (fun hg2 => ?_) (fun hg2 => ?_)
    · try simp only [decide_eq_true_eq, decide_eq_false_iff_not, beq_iff_eq, bne_iff_ne, beq_eq_false_iff_ne, bne_eq_false_iff_eq, Bool.not_eq_true, Bool.not_eq_false, Bool.not_eq_eq_eq_not, Bool.not_true, Bool.not_false, List.length_map, Int.not_lt, Int.not_le, ne_eq, Decidable.not_not] at hg2
      refine vo_guard_off rfl rfl rfl rfl rfl ?_
      refine vo_guard_off rfl rfl rfl rfl rfl ?_
      refine vo_guard_off rfl rfl rfl rfl rfl ?_
      refine vo_guard_off rfl rfl rfl rfl rfl ?_
      refine vo_guard_off rfl rfl rfl rfl rfl ?_
      refine vo_pick_t rfl rfl ?_
      refine vo_nil ?_
      refine hK3 _ ?_
      refine vc_cond_t rfl ?_
      refine vc_seq fun K5 hK5 => ?_
      refine vc_region ?_
      refine vo_assign_pv rfl rfl ?_
      refine vo_nil ?_
      refine hK5 _ ?_
      refine vc_ret ?_
      change retPv _ _ _ _ _
      refine retPv_mk rfl rfl rfl ⟨?_, rfl⟩
      refine (congrArg (fun b => [bo b]) (?_ : _ = _) : [bo _] = [bo _])
      exact bF fun h => by have := h.2.1; omega
    · try simp only [decide_eq_true_eq, decide_eq_false_iff_not, beq_iff_eq, bne_iff_ne, beq_eq_false_iff_ne, bne_eq_false_iff_eq, Bool.not_eq_true, Bool.not_eq_false, Bool.not_eq_eq_eq_not, Bool.not_true, Bool.not_false, List.length_map, Int.not_lt, Int.not_le, ne_eq, Decidable.not_not] at hg2
      refine vo_guard_on rfl rfl rfl ?_
      refine vo_move_pv rfl rfl ?_
      refine vo_guard_on rfl rfl rfl ?_
      refine vo_index_pv (.sl none 1 []) rfl rfl rfl E22.und inf36 sz36 sd sd ?_
      simp only [Int.toNat_natCast, Int.toNat_zero, getD_ints, getD_intss, getD_bools, getD_bytes, PV.cells]
      refine vo_guard_on rfl rfl rfl ?_
      refine vo_load_adr rfl rfl Try.underlying36 rfl ?_
      refine vo_guard_on rfl rfl rfl ?_
      refine vo_len_pv rfl rfl Try.underlying36 ?_
      refine vo_guard_on rfl rfl rfl ?_
      refine vo_binI rfl rfl rfl rfl trivial ?_
      refine vo_pick_f rfl rfl ?_
      refine vo_nil ?_
      refine hK3 _ ?_
      refine vc_cond rfl (fun hc3 => ?_) (fun hc3 => ?_)
      · try simp only [decide_eq_true_eq, decide_eq_false_iff_not, beq_iff_eq, bne_iff_ne, beq_eq_false_iff_ne, bne_eq_false_iff_eq, Bool.not_eq_true, Bool.not_eq_false, Bool.not_eq_eq_eq_not, Bool.not_true, Bool.not_false, List.length_map, Int.not_lt, Int.not_le, ne_eq, Decidable.not_not] at hc3
        refine vc_seq fun K6 hK6 => ?_
        refine vc_region ?_
        refine vo_assign_pv rfl rfl ?_
        refine vo_nil ?_
        refine hK6 _ ?_
        refine vc_ret ?_
        change retPv _ _ _ _ _
        refine retPv_mk rfl rfl rfl ⟨?_, rfl⟩
        refine (congrArg (fun b => [bo b]) (?_ : _ = _) : [bo _] = [bo _])
        exact bF fun h => by rw [h.2.2.1] at hc3; simp at hc3
      · try simp only [decide_eq_true_eq, decide_eq_false_iff_not, beq_iff_eq, bne_iff_ne, beq_eq_false_iff_ne, bne_eq_false_iff_eq, Bool.not_eq_true, Bool.not_eq_false, Bool.not_eq_eq_eq_not, Bool.not_true, Bool.not_false, List.length_map, Int.not_lt, Int.not_le, ne_eq, Decidable.not_not] at hc3
        refine vc_skip ?_
        refine hK2 _ ?_
        refine vc_seq fun K7 hK7 => ?_
        refine vc_seq fun K8 hK8 => ?_
        refine vc_region ?_
        refine vo_assign_pv rfl rfl ?_
        refine vo_nil ?_
        refine hK8 _ ?_
        refine vc_block ?_
        refine vc_stN ?_
        refine vc_loopF [0] [3] [.pv false (.sl nl0 1 (bases.map ints))] _ (fun mz vs => ∃ (k : Nat), mz = bases.length - k ∧ (k ≤ bases.length) ∧ (1 ≤ k) ∧ ((∀ i, i < k → 0 < i → CB (bases.getD i []) i)) ∧ vs = [i64 k]) (bases.length - 1) rfl rfl (le_len hC rfl) ⟨rfl, rfl, rfl⟩ ⟨1, rfl, by omega, Nat.le_refl _, (fun i h1 h2 => by omega), rfl⟩ ?_
        rintro mz vs - ⟨k, rfl, hk, h1, hf, rfl⟩
        refine vc_stN ?_
        refine vc_seq fun K9 hK9 => ?_
        refine vc_seq fun K10 hK10 => ?_
        refine vc_region ?_
        refine vo_move_pv rfl rfl ?_
        refine vo_move_pv rfl rfl ?_
        refine vo_len_pv rfl rfl Try.underlying22 ?_
        refine vo_binI rfl rfl rfl rfl trivial ?_
        refine vo_nil ?_
        refine hK10 _ ?_
        refine vc_cond rfl (fun hc4 => ?_) (fun hc4 => ?_)
        · try simp only [decide_eq_true_eq, decide_eq_false_iff_not, beq_iff_eq, bne_iff_ne, beq_eq_false_iff_ne, bne_eq_false_iff_eq, Bool.not_eq_true, Bool.not_eq_false, Bool.not_eq_eq_eq_not, Bool.not_true, Bool.not_false, List.length_map, Int.not_lt, Int.not_le, ne_eq, Decidable.not_not] at hc4
          refine vc_skip ?_
          refine hK9 _ ?_
          refine vc_seq fun K11 hK11 => ?_
          refine vc_block ?_
          refine vc_seq fun K12 hK12 => ?_
          refine vc_region ?_
          refine vo_move_pv rfl rfl ?_
          refine vo_move_pv rfl rfl ?_
          refine vo_index_pv (.sl none 1 []) rfl rfl rfl E22.und inf36 sz36 sd sd ?_
          simp only [Int.toNat_natCast, Int.toNat_zero, getD_ints, getD_intss, getD_bools, getD_bytes, PV.cells]
          refine vo_load_adr rfl rfl Try.underlying36 rfl ?_
          refine vo_move_pv rfl rfl ?_
          refine vo_call0 Try.func74 rfl rfl rfl rfl (canBeBases_sat (lens hlbases _ (by omega)) (by omega)) ?_
          rintro _ _ ⟨rfl, rfl⟩
          refine ⟨rfl, rfl, .inl rfl, ?_⟩
          refine vo_not rfl rfl ?_
          refine vo_nil ?_
          refine hK12 _ ?_
          refine vc_cond rfl (fun hc5 => ?_) (fun hc5 => ?_)
          · try simp only [decide_eq_true_eq, decide_eq_false_iff_not, beq_iff_eq, bne_iff_ne, beq_eq_false_iff_ne, bne_eq_false_iff_eq, Bool.not_eq_true, Bool.not_eq_false, Bool.not_eq_eq_eq_not, Bool.not_true, Bool.not_false, List.length_map, Int.not_lt, Int.not_le, ne_eq, Decidable.not_not] at hc5
            refine vc_seq fun K13 hK13 => ?_
            refine vc_region ?_
            refine vo_assign_pv rfl rfl ?_
            refine vo_nil ?_
            refine hK13 _ ?_
            refine vc_ret ?_
            change retPv _ _ _ _ _
            refine retPv_mk rfl rfl rfl ⟨?_, rfl⟩
            refine (congrArg (fun b => [bo b]) (?_ : _ = _) : [bo _] = [bo _])
            exact bF fun h => hc5 (h.2.2.2 k (by omega) (by omega))
          · try simp only [decide_eq_true_eq, decide_eq_false_iff_not, beq_iff_eq, bne_iff_ne, beq_eq_false_iff_ne, bne_eq_false_iff_eq, Bool.not_eq_true, Bool.not_eq_false, Bool.not_eq_eq_eq_not, Bool.not_true, Bool.not_false, List.length_map, Int.not_lt, Int.not_le, ne_eq, Decidable.not_not] at hc5
            refine vc_skip ?_
            refine hK11 _ ?_
            refine vc_region ?_
            refine vo_move_pv rfl rfl ?_
            refine vo_binI rfl rfl rfl rfl sd ?_
            refine vo_assign_pv rfl rfl ?_
            refine vo_nil ?_
            change againF _ _ _ _ _ _ _ _ _
            refine againF_mk rfl rfl rfl rfl rfl rfl ⟨_, ?_, k + 1, rfl, ?_, ?_, ?_, rfl⟩
            · omega
            · omega
            · omega
            · exact fun i h h0 => by rcases Nat.lt_or_ge i k with h1 | h1; exact hf i h1 h0; rwa [show i = k by omega]
        · try simp only [decide_eq_true_eq, decide_eq_false_iff_not, beq_iff_eq, bne_iff_ne, beq_eq_false_iff_ne, bne_eq_false_iff_eq, Bool.not_eq_true, Bool.not_eq_false, Bool.not_eq_eq_eq_not, Bool.not_true, Bool.not_false, List.length_map, Int.not_lt, Int.not_le, ne_eq, Decidable.not_not] at hc4
          refine vc_exit ?_
          refine hK7 _ ?_
          refine vc_seq fun K14 hK14 => ?_
          refine vc_region ?_
          refine vo_assign_pv rfl rfl ?_
          refine vo_nil ?_
          refine hK14 _ ?_
          refine vc_ret ?_
          change retPv _ _ _ _ _
          refine retPv_mk rfl rfl rfl ⟨?_, rfl⟩
          refine (congrArg (fun b => [bo b]) (?_ : _ = _) : [bo _] = [bo _])
          exact bT ⟨by omega, by omega, List.length_eq_zero_iff.1 (by omega), fun i h h0 => hf i (by omega) h0⟩

end Go.Vl

namespace Go.Vl
set_option linter.unusedVariables false
set_option linter.unusedSimpArgs false
open Go.Proofs

/-- The classes above a class; none where there is no such class. -/
def abvR (b : List (List Int)) (c : Int) : List Int := if VB b ∧ 0 ≤ c ∧ c < b.length then abvL b c.toNat else []
theorem hasClass_sat {nl0 : Option Bool} {bases : List (List Int)} {c : Int} (hbases : bases.length < 1000000000) (hlbases : ∀ l ∈ bases, l.length < 1000000000)  : SatAt Try.prog 75 [.pv false (.sl nl0 1 (bases.map ints)), i64 c] [] (fun res rows => res = [bo (decide (VB bases ∧ 0 ≤ c ∧ c < bases.length))] ∧ rows = []) := by
  refine sat_entry (ts := [4]) Try.func75 rfl rfl (by decide) (Nat.le_of_ble_eq_true rfl) fun C hC => ?_
  rw [Try.ntmps75]
  replace hC : C.nb = 0 := hC
  refine vc_seq fun K1 hK1 => ?_
  refine vc_region ?_
  refine vo_assign_pv rfl rfl ?_
  refine vo_nil ?_
  refine hK1 _ ?_
  refine vc_seq fun K2 hK2 => ?_
  refine vc_region ?_
  refine vo_move_pv rfl rfl ?_
  refine vo_call0 Try.func26 rfl rfl rfl rfl (implValidBases_sat hbases hlbases) ?_
  rintro _ _ ⟨rfl, rfl⟩
  refine ⟨rfl, rfl, .inl rfl, ?_⟩
  refine vo_move_pv rfl rfl ?_
  refine vo_split 7 rfl (fun hg1 => ?_) (fun hg1 => ?_)
  · try simp only [decide_eq_true_eq, decide_eq_false_iff_not, beq_iff_eq, bne_iff_ne, beq_eq_false_iff_ne, bne_eq_false_iff_eq, Bool.not_eq_true, Bool.not_eq_false, Bool.not_eq_eq_eq_not, Bool.not_true, Bool.not_false, List.length_map, Int.not_lt, Int.not_le, ne_eq, Decidable.not_not] at hg1
    refine vo_guard_on rfl rfl rfl ?_
    refine vo_move_pv rfl rfl ?_
    refine vo_guard_on rfl rfl rfl ?_
    refine vo_binI rfl rfl rfl rfl trivial ?_
    refine vo_pick_t rfl rfl ?_
    refine vo_move_pv rfl rfl ?_
    refine vo_split 11 rfl (fun hg2 => ?_) (fun hg2 => ?_)
    · try simp only [decide_eq_true_eq, decide_eq_false_iff_not, beq_iff_eq, bne_iff_ne, beq_eq_false_iff_ne, bne_eq_false_iff_eq, Bool.not_eq_true, Bool.not_eq_false, Bool.not_eq_eq_eq_not, Bool.not_true, Bool.not_false, List.length_map, Int.not_lt, Int.not_le, ne_eq, Decidable.not_not] at hg2
      refine vo_guard_on rfl rfl rfl ?_
      refine vo_move_pv rfl rfl ?_
      refine vo_guard_on rfl rfl rfl ?_
      refine vo_move_pv rfl rfl ?_
      refine vo_guard_on rfl rfl rfl ?_
      refine vo_len_pv rfl rfl Try.underlying22 ?_
      refine vo_guard_on rfl rfl rfl ?_
      refine vo_binI rfl rfl rfl rfl trivial ?_
      refine vo_pick_t rfl rfl ?_
      refine vo_assign_pv rfl rfl ?_
      refine vo_nil ?_
      refine hK2 _ ?_
      refine vc_ret ?_
      change retPv _ _ _ _ _
      refine retPv_mk rfl rfl rfl ⟨?_, rfl⟩
      refine (congrArg (fun b => [bo b]) (?_ : _ = _) : [bo _] = [bo _])
      exact decide_eq_decide.2 ⟨fun h => ⟨hg1, hg2, by simpa using h⟩, fun h => by simpa using h.2.2⟩
    · try simp only [decide_eq_true_eq, decide_eq_false_iff_not, beq_iff_eq, bne_iff_ne, beq_eq_false_iff_ne, bne_eq_false_iff_eq, Bool.not_eq_true, Bool.not_eq_false, Bool.not_eq_eq_eq_not, Bool.not_true, Bool.not_false, List.length_map, Int.not_lt, Int.not_le, ne_eq, Decidable.not_not] at hg2
      refine vo_guard_off rfl rfl rfl rfl rfl ?_
      refine vo_guard_off rfl rfl rfl rfl rfl ?_
      refine vo_guard_off rfl rfl rfl rfl rfl ?_
      refine vo_guard_off rfl rfl rfl rfl rfl ?_
      refine vo_pick_f rfl rfl ?_
      refine vo_assign_pv rfl rfl ?_
      refine vo_nil ?_
      refine hK2 _ ?_
      refine vc_ret ?_
      change retPv _ _ _ _ _
      refine retPv_mk rfl rfl rfl ⟨?_, rfl⟩
      refine (congrArg (fun b => [bo b]) (?_ : _ = _) : [bo _] = [bo _])
      exact bF fun h => by have := h.2.1; omega
  · try simp only [decide_eq_true_eq, decide_eq_false_iff_not, beq_iff_eq, bne_iff_ne, beq_eq_false_iff_ne, bne_eq_false_iff_eq, Bool.not_eq_true, Bool.not_eq_false, Bool.not_eq_eq_eq_not, Bool.not_true, Bool.not_false, List.length_map, Int.not_lt, Int.not_le, ne_eq, Decidable.not_not] at hg1
    refine vo_guard_off rfl rfl rfl rfl rfl ?_
    refine vo_guard_off rfl rfl rfl rfl rfl ?_
    refine vo_pick_f rfl rfl ?_
    refine vo_move_pv rfl rfl ?_
    refine vo_guard_off rfl rfl rfl rfl rfl ?_
    refine vo_guard_off rfl rfl rfl rfl rfl ?_
    refine vo_guard_off rfl rfl rfl rfl rfl ?_
    refine vo_guard_off rfl rfl rfl rfl rfl ?_
    refine vo_pick_f rfl rfl ?_
    refine vo_assign_pv rfl rfl ?_
    refine vo_nil ?_
    refine hK2 _ ?_
    refine vc_ret ?_
    change retPv _ _ _ _ _
    refine retPv_mk rfl rfl rfl ⟨?_, rfl⟩
    refine (congrArg (fun b => [bo b]) (?_ : _ = _) : [bo _] = [bo _])
    exact bF fun h => hg1 h.1


theorem validClass_sat {nl0 : Option Bool} {bases : List (List Int)} {c : Int} (hbases : bases.length < 1000000000) (hlbases : ∀ l ∈ bases, l.length < 1000000000)  : SatAt Try.prog 71 [.pv false (.sl nl0 1 (bases.map ints)), i64 c] [] (fun res rows => res = [bo (decide (VB bases ∧ 0 ≤ c ∧ c < bases.length))] ∧ rows = []) := by
  refine sat_entry (ts := [4]) Try.func71 rfl rfl (by decide) (Nat.le_of_ble_eq_true rfl) fun C hC => ?_
  rw [Try.ntmps71]
  replace hC : C.nb = 0 := hC
  refine vc_seq fun K1 hK1 => ?_
  refine vc_region ?_
  refine vo_assign_pv rfl rfl ?_
  refine vo_nil ?_
  refine hK1 _ ?_
  refine vc_seq fun K2 hK2 => ?_
  refine vc_region ?_
  refine vo_move_pv rfl rfl ?_
  refine vo_call0 Try.func119 rfl rfl rfl rfl (specValidBases0_sat hbases hlbases) ?_
  rintro _ _ ⟨rfl, rfl⟩
  refine ⟨rfl, rfl, .inl rfl, ?_⟩
  refine vo_move_pv rfl rfl ?_
  refine vo_split 7 rfl (fun hg1 => ?_) (fun hg1 => ?_)
  · try simp only [decide_eq_true_eq, decide_eq_false_iff_not, beq_iff_eq, bne_iff_ne, beq_eq_false_iff_ne, bne_eq_false_iff_eq, Bool.not_eq_true, Bool.not_eq_false, Bool.not_eq_eq_eq_not, Bool.not_true, Bool.not_false, List.length_map, Int.not_lt, Int.not_le, ne_eq, Decidable.not_not] at hg1
    refine vo_guard_on rfl rfl rfl ?_
    refine vo_move_pv rfl rfl ?_
    refine vo_guard_on rfl rfl rfl ?_
    refine vo_move_pv rfl rfl ?_
    refine vo_guard_on rfl rfl rfl ?_
    refine vo_len_pv rfl rfl Try.underlying22 ?_
    refine vo_guard_on rfl rfl rfl ?_
    refine vo_binI rfl rfl rfl rfl sd ?_
    refine vo_guard_on rfl rfl rfl ?_
    refine vo_call0 Try.func95 rfl rfl rfl rfl inRange_sat ?_
    rintro _ _ ⟨rfl, rfl⟩
    refine ⟨rfl, rfl, .inl rfl, ?_⟩
    refine vo_pick_t rfl rfl ?_
    refine vo_assign_pv rfl rfl ?_
    refine vo_nil ?_
    refine hK2 _ ?_
    refine vc_ret ?_
    change retPv _ _ _ _ _
    refine retPv_mk rfl rfl rfl ⟨?_, rfl⟩
    refine (congrArg (fun b => [bo b]) (?_ : _ = _) : [bo _] = [bo _])
    exact decide_eq_decide.2 ⟨fun h => ⟨hg1, h.1, by have := h.2; simp at this; omega⟩, fun h => ⟨h.2.1, by simp; omega⟩⟩
  · try simp only [decide_eq_true_eq, decide_eq_false_iff_not, beq_iff_eq, bne_iff_ne, beq_eq_false_iff_ne, bne_eq_false_iff_eq, Bool.not_eq_true, Bool.not_eq_false, Bool.not_eq_eq_eq_not, Bool.not_true, Bool.not_false, List.length_map, Int.not_lt, Int.not_le, ne_eq, Decidable.not_not] at hg1
    refine vo_guard_off rfl rfl rfl rfl rfl ?_
    refine vo_guard_off rfl rfl rfl rfl rfl ?_
    refine vo_guard_off rfl rfl rfl rfl rfl ?_
    refine vo_guard_off rfl rfl rfl rfl rfl ?_
    refine vo_guard_off rfl rfl rfl rfl rfl ?_
    refine vo_pick_f rfl rfl ?_
    refine vo_assign_pv rfl rfl ?_
    refine vo_nil ?_
    refine hK2 _ ?_
    refine vc_ret ?_
    change retPv _ _ _ _ _
    refine retPv_mk rfl rfl rfl ⟨?_, rfl⟩
    refine (congrArg (fun b => [bo b]) (?_ : _ = _) : [bo _] = [bo _])
    exact bF fun h => hg1 h.1


end Go.Vl

namespace Go.Vl
set_option linter.unusedVariables false
set_option linter.unusedSimpArgs false
open Go.Proofs

theorem take_eq_succ {α : Type} {a b : List α} {k : Nat} (h : k < a.length) (h2 : k < b.length) (d : α) : a.take (k+1) = b.take (k+1) ↔ a.take k = b.take k ∧ a.getD k d = b.getD k d := by
  rw [List.take_succ_eq_append_getElem h, List.take_succ_eq_append_getElem h2]
  have e1 : a.getD k d = a[k] := by simp [List.getD, List.getElem?_eq_getElem h]
  have e2 : b.getD k d = b[k] := by simp [List.getD, List.getElem?_eq_getElem h2]
  rw [e1, e2]
  constructor
  · intro h3
    have := List.append_inj' h3 rfl
    exact ⟨this.1, by simpa using this.2⟩
  · rintro ⟨h3, h4⟩; rw [h3, h4]
theorem take_eq_of {α : Type} {a b : List α} (h : a = b) (k : Nat) : a.take k = b.take k := by rw [h]

end Go.Vl

namespace Go.Vl
set_option linter.unusedVariables false
set_option linter.unusedSimpArgs false
open Go.Proofs

def belR (b : List (List Int)) (c : Int) : List Int := if VB b ∧ 0 ≤ c ∧ c < b.length then belL b c.toNat else []
def OKLs (ls : List (List Int)) : Prop := (∀ l ∈ ls, OKL l 12) ∧ ls.length ≤ 6
instance {ls : List (List Int)} : Decidable (OKLs ls) := by unfold OKLs; infer_instance
def KeepP (long short : List Int) : Prop := OKL long 12 ∧ OKL short 12 ∧ kpN short long 0 = short.length
instance {a b : List Int} : Decidable (KeepP a b) := by unfold KeepP; infer_instance
def OC (b s : List (List Int)) : Prop := VS b s ∧ ∀ j, j < s.length → ∀ i, i < j → (s.getD i []).length > 0 → (s.getD j []).length > 0 → (i : Int) ∈ abvL b j
noncomputable instance {a b : List (List Int)} : Decidable (OC a b) := Classical.propDecidable _
theorem getD_at {α : Type} {l : List α} {j : Nat} (h : j < l.length) (d : α) : l.getD j d = l[j] := by simp [List.getD, List.getElem?_eq_getElem h]
end Go.Vl

namespace Go.Vl
set_option linter.unusedVariables false
set_option linter.unusedSimpArgs false
open Go.Proofs

theorem VB.take {b : List (List Int)} {k : Nat} (h : VB b) (h1 : 1 ≤ k) (h2 : k ≤ b.length) : VB (b.take k) := by
  obtain ⟨a1, a2, a3, a4⟩ := h
  have e : ∀ i, i < k → (b.take k).getD i [] = b.getD i [] := fun i hi => by simp [List.getD, List.getElem?_take, hi]
  have l : (b.take k).length = k := by rw [List.length_take]; omega
  exact ⟨by omega, by omega, by rw [e 0 (by omega)]; exact a3, fun i hi h0 => by rw [e i (by omega)]; exact a4 i (by omega) h0⟩
theorem set_lens {B : List (List Int)} {l : List Int} {i N : Nat} (h : ∀ x ∈ B, x.length ≤ N) (hl : l.length ≤ N) : ∀ x ∈ B.set i l, x.length ≤ N := by
  intro x hx
  rcases List.mem_or_eq_of_mem_set hx with hx | rfl
  · exact h x hx
  · exact hl
theorem app_lens {B : List (List Int)} {l : List Int} {N : Nat} (h : ∀ x ∈ B, x.length ≤ N) (hl : l.length ≤ N) : ∀ x ∈ B ++ [l], x.length ≤ N := by
  intro x hx
  rcases List.mem_append.1 hx with hx | hx
  · exact h x hx
  · rw [List.mem_singleton.1 hx]; exact hl

end Go.Vl

/- From a function's contract to the row of a law over bytes. -/
namespace Go.Vl
set_option linter.unusedVariables false
set_option linter.unusedSimpArgs false
open Go.RowKit Go.WideShapes

theorem okWide_spot {P : Program} {W : World} {base : Nat} {t e : TypeId} {a : Addr} {len cap : Nat} (hT : P.underlying t = some (.slice e)) (h : Value.okWide P W .any base t (.slice (some a) len cap)) :
    a.spot = none ∧ a.block < W.heap.size := by
  simp only [Value.okWide, hT, Cell.okWide, Cell.ok, World.has] at h
  obtain ⟨_, _, _, h1, row, cells, h2, _⟩ := h
  refine ⟨h1, ?_⟩
  unfold World.shape? at h2
  rcases Nat.lt_or_ge a.block W.heap.size with h3 | h3
  · exact h3
  · rw [Array.getElem?_eq_none h3] at h2; cases h2

/-- What is known of bytes that come in. -/
def BytesAt (w : World) (a0 : Option Addr) (len cap : Nat) : Prop :=
  (a0 = none ∧ len = 0 ∧ cap = 0) ∨ ∃ (x : Addr) (zs : List Int), a0 = some x ∧ x.spot = none ∧ x.block < w.heap.size ∧ len ≤ cap ∧ zs.length = cap ∧
    (∀ i, i < zs.length → w.cell? (x.add i) = some (.int .u8 (zs.getD i 0))) ∧ ∀ n ∈ zs, (Lit.int .u8 n).wf = true

theorem bytes_pv {w : World} {a0 : Option Addr} {len cap : Nat} {G : Nat → Prop} (hG : ∀ b, b < w.heap.size → G b) (h : BytesAt w a0 len cap) :
    ∃ (nl : Option Bool) (c : List (Fin 256)), RP w G (.sl nl 1 (c.map byteP)) (.slice a0 len cap) := by
  rcases h with ⟨rfl, rfl, rfl⟩ | ⟨x, zs, rfl, hs, hb, hl, hz, hc, hw⟩
  · exact ⟨none, [], .nilsl _ _ (by simp)⟩
  · have hbd : ∀ i, i < zs.length → 0 ≤ zs.getD i 0 ∧ zs.getD i 0 < 256 := by
      intro i hi
      have hm : zs.getD i 0 ∈ zs := by simp [List.getD, List.getElem?_eq_getElem hi]
      have := hw _ hm
      generalize zs.getD i 0 = n at this ⊢
      simp [Lit.wf, IntKind.min, IntKind.max, IntKind.bits, IntKind.signed] at this
      omega
    let c : List (Fin 256) := (List.range len).map fun i => ⟨(zs.getD i 0).toNat % 256, Nat.mod_lt _ (by omega)⟩
    refine ⟨none, c, .sl none 1 _ x len cap (fun i _ => .int .u8 (zs.getD i 0)) (by simp) (fun _ => hs) (by simp [c]) hl (fun _ => hG _ hb) ?_ ?_ ?_⟩
    · intro i y hy
      simp only [List.getElem?_map] at hy
      cases hci : c[i]? with
      | none => rw [hci] at hy; simp at hy
      | some z =>
        rw [hci] at hy
        simp only [Option.map_some, Option.some.injEq] at hy
        subst hy
        exact fits_of rfl
    · intro i y j d hy hd
      simp only [List.getElem?_map] at hy
      cases hci : c[i]? with
      | none => rw [hci] at hy; simp at hy
      | some z =>
        rw [hci] at hy
        simp only [Option.map_some, Option.some.injEq] at hy
        subst hy
        have hi : i < len := by
          rcases Nat.lt_or_ge i len with h1 | h1
          · exact h1
          · have : c[i]? = none := List.getElem?_eq_none (by simp [c]; exact h1)
            rw [this] at hci; cases hci
        have hj : j = 0 := by
          cases j with
          | zero => rfl
          | succ j => simp [PV.cells] at hd
        subst hj
        have := hc i (by omega)
        rw [← this]
        congr 1
        obtain ⟨xb, xo, xs⟩ := x
        simp only at hs
        subst hs
        simp [Addr.add]
    · intro i y j d hy hd
      simp only [List.getElem?_map] at hy
      cases hci : c[i]? with
      | none => rw [hci] at hy; simp at hy
      | some z =>
        rw [hci] at hy
        simp only [Option.map_some, Option.some.injEq] at hy
        subst hy
        have hi : i < len := by
          rcases Nat.lt_or_ge i len with h1 | h1
          · exact h1
          · have : c[i]? = none := List.getElem?_eq_none (by simp [c]; exact h1)
            rw [this] at hci; cases hci
        have hj : j = 0 := by
          cases j with
          | zero => rfl
          | succ j => simp [PV.cells] at hd
        subst hj
        have hd2 : d = byteP z := by simpa [PV.cells] using hd.symm
        subst hd2
        have hz2 : ((z.val : Nat) : Int) = zs.getD i 0 := by
          have e : c[i]? = some ⟨(zs.getD i 0).toNat % 256, Nat.mod_lt _ (by omega)⟩ := by simp [c, hi]
          rw [e] at hci
          simp only [Option.some.injEq] at hci
          have hb := hbd i (by omega)
          rw [← hci]
          show (((zs.getD i 0).toNat % 256 : Nat) : Int) = _
          omega
        rw [← hz2]
        exact .int _ _

end Go.Vl

/- From a function's contract to the row of a law over lists of numbers, and numbers. -/
namespace Go.Vl
set_option linter.unusedVariables false
set_option linter.unusedSimpArgs false
open Go.RowKit Go.WideShapes Go.ChangeShapes

/-- The setting of a law's call. -/
def C0 (w : World) : Ctx := ⟨w, fun b => b < w.heap.size, 0, fun _ => default⟩
def G0 (w : World) : Bool → Nat → Prop := Gd (C0 w) [] (fun _ => default) w
theorem G0_of {w : World} {b : Nat} (h : b < w.heap.size) : G0 w false b := by
  refine ⟨h, ?_, fun _ => .inl h, fun e => by cases e⟩
  rintro ⟨id, ⟨r, hr, _⟩, _⟩
  simp at hr

theorem law_gen {P : Program} {f : FuncId} {w : World} {args : List SV} {vals : Array Value} (hl : vals.size = args.length)
    (hv : ∀ (j : Nat) (a : SV), args[j]? = some a → RS w (G0 w) (fun _ => default) 0 a (vals.getD j undef))
    (h : SatAt P f args [] (fun res rows => res = [bo true] ∧ rows = [])) :
    Calls P f vals w fun e w' => e = .returned (.bool true) ∧ Below w.heap.size w w' := by
  have hsim : SimM (C0 w) ⟨vals.size, enumE 0 args, []⟩ (fun _ => default) ⟨vals, []⟩ w := {
    defs := rfl
    size := rfl
    os := rfl
    tape := rfl
    output := rfl
    hsz := Nat.le_refl _
    old := fun _ _ _ => rfl
    bor := fun id hid => by cases hid
    nbl := Nat.zero_le _
    newb := fun id b _ ⟨r, hr, _⟩ => by simp at hr
    dist := fun i j b ⟨r, hr, _⟩ => by simp at hr
    rows := fun id r hr => by simp at hr
    env := fun t => by
      show RS _ _ _ _ (look (enumE 0 _) t) _
      rw [look_enumE]
      simp only [Nat.zero_le, if_true, Nat.sub_zero]
      cases ha : args[t]? with
      | none => exact .any _
      | some a => exact hv t a ha }
  refine (h (C0 w) (fun _ => default) vals rfl (fun b hb => hb) hl hsim).mono fun e w' hx => ?_
  obtain ⟨us, res, rows', m', rfl, hus, hs, rfl, rfl⟩ := hx
  have hv := hs.env 0
  have h1 : us.size = 1 := hus
  refine ⟨?_, hs.os, hs.tape, hs.output, hs.hsz, fun k hk => hs.old k hk (fun id hid => by cases hid)⟩
  have hv : RS w' (Gd (C0 w) [] m' w') m' 0 (bo true) (us.getD 0 undef) := hv
  have hb := hv.pv_inv
  unfold pack
  rw [dif_pos h1]
  simp only [Array.getD, h1, Nat.lt_succ_self, dif_pos, Nat.zero_lt_one] at hb
  cases hu : us[0]
  all_goals (simp only [Array.getInternal_eq_getElem, hu] at hb; cases hb)
  rfl

section
variable {H : Type} {enc : TypeId × Value → H} {P : Program} {w : World} {base : Nat} {held : Bool}
end
end Go.Vl

/- Arguments of any type of numbers, truth values, slices and structs, opened by their types. -/
namespace Go.Vl
set_option linter.unusedVariables false
set_option linter.unusedSimpArgs false
open Go.RowKit Go.ChangeShapes Go.WideShapes Go.ChangeAt

/-- A value of the type reads as one of the values that pv tells. -/
def Opens (P : Program) (t : TypeId) (k : Nat) {α : Type} (pv : α → PV) (good : α → Prop) : Prop :=
  ∀ (H : Type) (enc : TypeId × Value → H) (w : World) (base : Nat) (held : Bool) (fuel : Nat) (cs : List Value) (x : DataW H × List MemPlace), DataW.trod enc P w base (fun _ => true) held fuel t cs = some x →
    ∃ a, good a ∧ (pv a).fits k ∧ cs.length = k ∧ ∀ (j : Nat) (c : PV) (v : Value), (pv a).cells[j]? = some c → cs[j]? = some v → RP w (G0 w false) c v

def i64R (n : Int) : Prop := -9223372036854775808 ≤ n ∧ n ≤ 9223372036854775807

/-- A struct, field by field, from a place on. -/
def OpenF (P : Program) (off : Nat) (fs : List Field) (k : Nat) {α : Type} (cells : α → List PV) (good : α → Prop) : Prop :=
  ∀ (H : Type) (enc : TypeId × Value → H) (w : World) (base : Nat) (held : Bool) (fuel : Nat) (cs : List Value),
    (∀ (i : Nat) (f : Field), fs[i]? = some f → ∃ x, DataW.trod enc P w base (fun _ => true) held fuel f.type ((cs.drop f.offset).take (P.cellsOf f.type)) = some x) →
    ∃ a, good a ∧ (cells a).length = k ∧ (∀ c ∈ cells a, c.isAgg = false) ∧ ∀ (j : Nat) (c : PV) (v : Value), (cells a)[j]? = some c → ((cs.drop off).take k)[j]? = some v → RP w (G0 w false) c v

/-- The value of an argument of one cell. -/
theorem Opens.one {P : Program} {t : TypeId} {α : Type} {pv : α → PV} {good : α → Prop} (h : Opens P t 1 pv good) (hna : ∀ a, (pv a).cells = [pv a]) {H : Type} {enc : TypeId × Value → H} {w : World} {base : Nat} {held : Bool} {v : Value} {d : DataW H} {ps : List MemPlace} (hv : v.cells.toList = [v])
    (hd : DataW.Trod enc P w base (fun _ => true) held t v d ps) : ∃ a, good a ∧ RP w (G0 w false) (pv a) v := by
  obtain ⟨fuel, hf⟩ := hd
  rw [hv] at hf
  obtain ⟨a, g1, g2, g3, g4⟩ := h H enc w base held fuel _ _ hf
  exact ⟨a, g1, g4 0 _ _ (by rw [hna]; rfl) rfl⟩

/-- The value of an argument that is a struct. -/
theorem Opens.agg {P : Program} {t k : Nat} {α : Type} {cells : α → List PV} {good : α → Prop} (h : Opens P t k (fun a => .agg (cells a)) good) {H : Type} {enc : TypeId × Value → H} {w : World} {base : Nat} {held : Bool} {cs : Array Value} {d : DataW H} {ps : List MemPlace}
    (hd : DataW.Trod enc P w base (fun _ => true) held t (.agg cs) d ps) : ∃ a, good a ∧ RP w (G0 w false) (.agg (cells a)) (.agg cs) := by
  obtain ⟨fuel, hf⟩ := hd
  obtain ⟨a, g1, g2, g3, g4⟩ := h H enc w base held fuel _ _ hf
  refine ⟨a, g1, .agg _ _ ?_ (fun j c hc => g2.2 j c hc) (fun j c v hc hv => g4 j c v hc ?_)⟩
  · have h1 : (cells a).length = k := g2.1
    have h2 : cs.toList.length = k := g3
    rw [h1, ← h2]; simp
  · show cs.toList[j]? = some v
    simpa using hv
end Go.Vl

namespace Go.Vl
set_option linter.unusedVariables false
set_option linter.unusedSimpArgs false
open Go.Proofs

structure OpM where
  who : Int
  name : Int
  value : Int
  gone : Bool
  deriving Inhabited, DecidableEq
abbrev opP (o : OpM) : PV := .agg [.int .i64 o.who, .int .i64 o.name, .int .i64 o.value, .bool o.gone]
abbrev pairP (p : Int × Int) : PV := .agg [.int .i64 p.1, .int .i64 p.2]
structure InstM where
  shares : Bool
  order : List Int
  values : List Int
  own : List (Int × Int)
  deriving Inhabited, DecidableEq
abbrev instP (x : InstM) : PV := .agg [.bool x.shares, .sl none 1 (x.order.map intP), .sl none 1 (x.values.map intP), .sl none 2 (x.own.map pairP)]
structure HeapM where
  keys : List Int
  insts : List InstM
  deriving Inhabited, DecidableEq
abbrev heapP (h : HeapM) : PV := .agg [.sl none 1 (h.keys.map intP), .sl none 4 (h.insts.map instP)]
theorem getD_map0 {α β : Type} (f : α → β) (l : List α) (k : Nat) (d : α) (d' : β) (h : f d = d') : (l.map f).getD k d' = f (l.getD k d) := by
  subst h
  simp only [List.getD, List.getElem?_map]
  cases l[k]? <;> rfl
theorem getD_ops (l : List OpM) (k : Nat) : (l.map opP).getD k (.agg [.int .i64 0, .int .i64 0, .int .i64 0, .bool false]) = opP (l.getD k ⟨0, 0, 0, false⟩) := getD_map0 opP l k ⟨0, 0, 0, false⟩ _ rfl
theorem getD_pairs (l : List (Int × Int)) (k : Nat) : (l.map pairP).getD k (.agg [.int .i64 0, .int .i64 0]) = pairP (l.getD k (0, 0)) := getD_map0 pairP l k (0, 0) _ rfl
theorem getD_insts (l : List InstM) (k : Nat) : (l.map instP).getD k (.agg [.bool false, .sl none 1 [], .sl none 1 [], .sl none 2 []]) = instP (l.getD k ⟨false, [], [], []⟩) := getD_map0 instP l k ⟨false, [], [], []⟩ _ rfl
/-- A copy that is under way. -/
def cpy {α : Type} (d : α) (l : List α) (k : Nat) : List α := l.take k ++ List.replicate (l.length - k) d
def okOp (o : OpM) : Prop := (0 ≤ o.who ∧ o.who ≤ 3) ∧ (0 ≤ o.name ∧ o.name ≤ 9) ∧ (0 ≤ o.value ∧ o.value ≤ 99)
instance (o : OpM) : Decidable (okOp o) := by unfold okOp; exact inferInstance
def VOps (l : List OpM) : Prop := l.length ≤ 40 ∧ ∀ o ∈ l, okOp o
instance (l : List OpM) : Decidable (VOps l) := by unfold VOps; exact inferInstance

end Go.Vl

namespace Go.Vl
set_option linter.unusedVariables false
set_option linter.unusedSimpArgs false
open Go.Proofs
open Go.Proofs
end Go.Vl

namespace Go.Vl
set_option linter.unusedVariables false
set_option linter.unusedSimpArgs false
open Go.Proofs
open Go.Proofs
def nms (l : List (Int × Int)) : List Int := l.map Prod.fst
@[simp] theorem nms_len (l : List (Int × Int)) : (nms l).length = l.length := by simp [nms]
theorem take_nms (l : List (Int × Int)) (k : Nat) : (nms l).take k = nms (l.take k) := by simp [nms]
def SPairs (a b : List (Int × Int)) : Prop := a.length ≤ 40 ∧ (nms a).Nodup ∧ a.length = b.length ∧ ∀ p ∈ a, p ∈ b
instance (a b : List (Int × Int)) : Decidable (SPairs a b) := by unfold SPairs; exact inferInstance
theorem findM_pos_iff {n : Int} {l : List Int} : ∀ {k : Int}, 0 ≤ k → 0 ≤ findM n l k → ∃ i, i < l.length ∧ findM n l k = k + i ∧ l.getD i 0 = n ∧ ∀ j, j < i → l.getD j 0 ≠ n := by
  induction l with
  | nil => intro k hk h; simp [findM] at h
  | cons x xs ih =>
    intro k hk h
    by_cases hx : x = n
    · exact ⟨0, by simp, by simp [findM, hx], by simp [hx], fun j hj => by omega⟩
    · have e : findM n (x :: xs) k = findM n xs (k + 1) := by simp [findM, hx]
      rw [e] at h
      obtain ⟨i, hi, h1, h2, h3⟩ := ih (by omega) h
      refine ⟨i + 1, by simp; omega, by rw [e, h1]; push_cast; omega, by simpa using h2, fun j hj => ?_⟩
      cases j with
      | zero => simpa using hx
      | succ j => simpa using h3 j (by omega)
end Go.Vl

namespace Go.Vl
set_option linter.unusedVariables false
set_option linter.unusedSimpArgs false
open Go.Proofs

structure AttrM where
  name : Int
  kind : Int
  value : Int
  deriving Inhabited, DecidableEq
abbrev attrP (a : AttrM) : PV := .agg [.int .i64 a.name, .int .i64 a.kind, .int .i64 a.value]
abbrev attrsP (l : List AttrM) : PV := .sl none 3 (l.map attrP)
structure ObjM where
  cls : Int
  pairs : List (Int × Int)
  deriving Inhabited, DecidableEq
abbrev objP (o : ObjM) : PV := .agg [.int .i64 o.cls, .sl none 2 (o.pairs.map pairP)]
structure WorldM where
  bases : List (List Int)
  attrs : List (List AttrM)
  objs : List ObjM
  deriving Inhabited, DecidableEq
abbrev worldP (w : WorldM) : PV := .agg [.sl none 1 (w.bases.map ints), .sl none 1 (w.attrs.map attrsP), .sl none 2 (w.objs.map objP)]
open Go.Proofs
def GO63 (x : ObjM) : Prop := x.pairs.length ≤ 9223372036854775807
def GW63 (w : WorldM) : Prop := (w.bases.length ≤ 9223372036854775807 ∧ ∀ l ∈ w.bases, l.length ≤ 9223372036854775807) ∧ (w.attrs.length ≤ 9223372036854775807 ∧ ∀ l ∈ w.attrs, l.length ≤ 9223372036854775807) ∧ w.objs.length ≤ 9223372036854775807 ∧ ∀ o ∈ w.objs, GO63 o
def SO (x : ObjM) : Prop := x.pairs.length ≤ 2000000
def SW (w : WorldM) : Prop := (w.bases.length ≤ 2000000 ∧ ∀ l ∈ w.bases, l.length ≤ 2000000) ∧ (w.attrs.length ≤ 2000000 ∧ ∀ l ∈ w.attrs, l.length ≤ 2000000) ∧ w.objs.length ≤ 2000000 ∧ ∀ o ∈ w.objs, SO o
end Go.Vl

namespace Go.Vl
set_option linter.unusedVariables false
set_option linter.unusedSimpArgs false
open Go.Proofs

/-- The places of the values that are there. -/
def plc (vs : List Int) (k : Nat) : List Int := ((List.range k).filter fun i => decide (vs.getD i 0 ≠ -1)).map Int.ofNat
def TPl (order vs : List Int) : Prop := (∀ x ∈ plc vs vs.length, x ∈ order) ∧ order.length = (plc vs vs.length).length
instance (a b : List Int) : Decidable (TPl a b) := by unfold TPl; exact inferInstance
def okPair (p : Int × Int) : Prop := (0 ≤ p.1 ∧ p.1 ≤ 9) ∧ (0 ≤ p.2 ∧ p.2 ≤ 99)
instance (p : Int × Int) : Decidable (okPair p) := by unfold okPair; exact inferInstance
def AOwn (l : List (Int × Int)) : Prop := (nms l).Nodup ∧ ∀ p ∈ l, okPair p
instance (l : List (Int × Int)) : Decidable (AOwn l) := by unfold AOwn; exact inferInstance
def AShared (vs : List Int) : Prop := (∀ v ∈ vs, -1 ≤ v ∧ v ≤ 99) ∧ (vs.length = 0 ∨ 0 ≤ vs.getD (vs.length - 1) 0)
instance (l : List Int) : Decidable (AShared l) := by unfold AShared; exact inferInstance
def VInst (n : Nat) (x : InstM) : Prop := if x.shares = true then x.own.length = 0 ∧ x.values.length ≤ n ∧ AShared x.values ∧ TPl x.order x.values else x.order.length = 0 ∧ x.values.length = 0 ∧ AOwn x.own
instance (n : Nat) (x : InstM) : Decidable (VInst n x) := by unfold VInst; exact inferInstance
def VHeap (h : HeapM) : Prop := (h.keys.length ≤ 5 ∧ h.keys.Nodup) ∧ (∀ k ∈ h.keys, 0 ≤ k ∧ k ≤ 9) ∧ h.insts.length = 4 ∧ ∀ x ∈ h.insts, VInst h.keys.length x
instance (h : HeapM) : Decidable (VHeap h) := by unfold VHeap; exact inferInstance
/-- What trimming leaves. -/
def TrM (vs : List Int) (m : Nat) : Prop := m ≤ vs.length ∧ (∀ i, m ≤ i → i < vs.length → vs.getD i 0 = -1) ∧ (m = 0 ∨ vs.getD (m - 1) 0 ≠ -1)
end Go.Vl

namespace Go.Vl
set_option linter.unusedVariables false
set_option linter.unusedSimpArgs false
open Go.Proofs

end Go.Vl

namespace Go.Vl
set_option linter.unusedVariables false
set_option linter.unusedSimpArgs false
open Go.Proofs
theorem fM_eq (n : Int) : ∀ (l : List Int) (i : Int), findM n l i = fM n l i
  | [], _ => rfl
  | x :: l, i => by simp only [findM, fM]; rw [fM_eq n l (i+1)]
theorem bhd_find {x : Int} {l : List Int} : 0 < findM x l 0 ↔ bhd x l := by rw [fM_eq]; exact Iff.rfl
theorem anyB_of {ls : List (List Int)} {x : Int} {k : Nat} (h : k < ls.length) (h2 : 0 < findM x (ls.getD k []) 0) : anyB ls x := ⟨_, getD_mem h [], bhd_find.1 h2⟩
theorem anyB_succ {ls : List (List Int)} {x : Int} {k : Nat} (h : k < ls.length) (h1 : ∀ l ∈ ls.take k, ¬ bhd x l) (h2 : ¬ 0 < findM x (ls.getD k []) 0) : ∀ l ∈ ls.take (k+1), ¬ bhd x l := (all_take_succ h []).2 ⟨h1, fun e => h2 (bhd_find.2 e)⟩
theorem anyB_no {ls : List (List Int)} {x : Int} {k : Nat} (h : ls.length ≤ k) (h1 : ∀ l ∈ ls.take k, ¬ bhd x l) : ¬ anyB ls x := by
  rw [take_all h] at h1
  rintro ⟨l, h2, h3⟩
  exact h1 l h2 h3

theorem isBehind_sat {nl0 : Option Bool} {lists : List (List Int)} {x : Int} (hlists : lists.length < 1000000000) (hllists : ∀ l ∈ lists, l.length < 1000000000)  : SatAt Try.prog 193 [.pv false (.sl nl0 1 (lists.map ints)), i64 x] [] (fun res rows => res = [bo (decide (anyB lists x))] ∧ rows = []) := by
  refine sat_entry (ts := [4]) Try.func193 rfl rfl (by decide) (Nat.le_of_ble_eq_true rfl) fun C hC => ?_
  rw [Try.ntmps193]
  replace hC : C.nb = 0 := hC
  refine vc_seq fun K1 hK1 => ?_
  refine vc_region ?_
  refine vo_assign_pv rfl rfl ?_
  refine vo_nil ?_
  refine hK1 _ ?_
  refine vc_seq fun K2 hK2 => ?_
  refine vc_seq fun K3 hK3 => ?_
  refine vc_region ?_
  refine vo_move_pv rfl rfl ?_
  refine vo_len_pv rfl rfl Try.underlying22 ?_
  refine vo_move_pv rfl rfl ?_
  refine vo_nil ?_
  refine hK3 _ ?_
  refine vc_block ?_
  refine vc_stN ?_
  refine vc_loopF [1, 7, 8] [9] [i64 x, .pv false (.sl nl0 1 (lists.map ints)), i64 (lists.map ints).length] _ (fun mz vs => ∃ (k : Nat), mz = lists.length - k ∧ (k ≤ lists.length) ∧ (∀ l ∈ lists.take k, ¬ bhd x l) ∧ vs = [i64 k]) (lists.length) rfl rfl (le_len hC rfl) ⟨rfl, rfl, rfl⟩ ⟨0, rfl, Nat.zero_le _, (by simp), rfl⟩ ?_
  rintro mz vs - ⟨k, rfl, hk, hf, rfl⟩
  refine vc_stN ?_
  refine vc_seq fun K4 hK4 => ?_
  refine vc_region ?_
  refine vo_binI rfl rfl rfl rfl trivial ?_
  refine vo_nil ?_
  refine hK4 _ ?_
  refine vc_seq fun K5 hK5 => ?_
  refine vc_cond rfl (fun hc1 => ?_) (fun hc1 => ?_)
  · try simp only [decide_eq_true_eq, decide_eq_false_iff_not, beq_iff_eq, bne_iff_ne, beq_eq_false_iff_ne, bne_eq_false_iff_eq, Bool.not_eq_true, Bool.not_eq_false, Bool.not_eq_eq_eq_not, Bool.not_true, Bool.not_false, List.length_map, Int.not_lt, Int.not_le, ne_eq, Decidable.not_not] at hc1
    refine vc_skip ?_
    refine hK5 _ ?_
    refine vc_seq fun K6 hK6 => ?_
    refine vc_block ?_
    refine vc_seq fun K7 hK7 => ?_
    refine vc_region ?_
    refine vo_index_pv (.sl none 1 []) rfl rfl rfl E22.und inf36 sz36 sd sd ?_
    simp only [Int.toNat_natCast, Int.toNat_zero, getD_ints, getD_intss, getD_bools, getD_bytes, PV.cells]
    refine vo_load_adr rfl rfl Try.underlying36 rfl ?_
    refine vo_assign_pv rfl rfl ?_
    refine vo_nil ?_
    refine hK7 _ ?_
    refine vc_seq fun K8 hK8 => ?_
    refine vc_region ?_
    refine vo_move_pv rfl rfl ?_
    refine vo_move_pv rfl rfl ?_
    refine vo_call0 Try.func118 rfl rfl rfl rfl (Index_sat (lens hllists _ (by omega))) ?_
    rintro _ _ ⟨rfl, rfl⟩
    refine ⟨rfl, rfl, .inl rfl, ?_⟩
    refine vo_binI rfl rfl rfl rfl trivial ?_
    refine vo_nil ?_
    refine hK8 _ ?_
    refine vc_cond rfl (fun hc2 => ?_) (fun hc2 => ?_)
    · try simp only [decide_eq_true_eq, decide_eq_false_iff_not, beq_iff_eq, bne_iff_ne, beq_eq_false_iff_ne, bne_eq_false_iff_eq, Bool.not_eq_true, Bool.not_eq_false, Bool.not_eq_eq_eq_not, Bool.not_true, Bool.not_false, List.length_map, Int.not_lt, Int.not_le, ne_eq, Decidable.not_not] at hc2
      refine vc_seq fun K9 hK9 => ?_
      refine vc_region ?_
      refine vo_assign_pv rfl rfl ?_
      refine vo_nil ?_
      refine hK9 _ ?_
      refine vc_ret ?_
      change retPv _ _ _ _ _
      refine retPv_mk rfl rfl rfl ⟨?_, rfl⟩
      refine (congrArg (fun b => [bo b]) (?_ : _ = _) : [bo _] = [bo _])
      exact bT (anyB_of (k := k) (by omega) (by omega))
    · try simp only [decide_eq_true_eq, decide_eq_false_iff_not, beq_iff_eq, bne_iff_ne, beq_eq_false_iff_ne, bne_eq_false_iff_eq, Bool.not_eq_true, Bool.not_eq_false, Bool.not_eq_eq_eq_not, Bool.not_true, Bool.not_false, List.length_map, Int.not_lt, Int.not_le, ne_eq, Decidable.not_not] at hc2
      refine vc_skip ?_
      refine hK6 _ ?_
      refine vc_region ?_
      refine vo_binI rfl rfl rfl rfl sd ?_
      refine vo_move_pv rfl rfl ?_
      refine vo_nil ?_
      change againF _ _ _ _ _ _ _ _ _
      refine againF_mk rfl rfl rfl rfl rfl rfl ⟨_, ?_, k + 1, rfl, ?_, ?_, rfl⟩
      · omega
      · omega
      · exact anyB_succ (by omega) hf (by omega)
  · try simp only [decide_eq_true_eq, decide_eq_false_iff_not, beq_iff_eq, bne_iff_ne, beq_eq_false_iff_ne, bne_eq_false_iff_eq, Bool.not_eq_true, Bool.not_eq_false, Bool.not_eq_eq_eq_not, Bool.not_true, Bool.not_false, List.length_map, Int.not_lt, Int.not_le, ne_eq, Decidable.not_not] at hc1
    refine vc_exit ?_
    refine hK2 _ ?_
    refine vc_seq fun K10 hK10 => ?_
    refine vc_region ?_
    refine vo_assign_pv rfl rfl ?_
    refine vo_nil ?_
    refine hK10 _ ?_
    refine vc_ret ?_
    change retPv _ _ _ _ _
    refine retPv_mk rfl rfl rfl ⟨?_, rfl⟩
    refine (congrArg (fun b => [bo b]) (?_ : _ = _) : [bo _] = [bo _])
    exact bF (anyB_no (by omega) hf)


theorem goodHead_sat {nl0 : Option Bool} {lists : List (List Int)} {x : Int} (hlists : lists.length < 1000000000) (hllists : ∀ l ∈ lists, l.length < 1000000000)  : SatAt Try.prog 173 [.pv false (.sl nl0 1 (lists.map ints)), i64 x] [] (fun res rows => res = [bo (decide (¬ anyB lists x))] ∧ rows = []) := by
  refine sat_entry (ts := [4]) Try.func173 rfl rfl (by decide) (Nat.le_of_ble_eq_true rfl) fun C hC => ?_
  rw [Try.ntmps173]
  replace hC : C.nb = 0 := hC
  refine vc_seq fun K1 hK1 => ?_
  refine vc_region ?_
  refine vo_assign_pv rfl rfl ?_
  refine vo_nil ?_
  refine hK1 _ ?_
  refine vc_seq fun K2 hK2 => ?_
  refine vc_seq fun K3 hK3 => ?_
  refine vc_region ?_
  refine vo_assign_pv rfl rfl ?_
  refine vo_nil ?_
  refine hK3 _ ?_
  refine vc_block ?_
  refine vc_stN ?_
  refine vc_loopF [0, 1] [5] [.pv false (.sl nl0 1 (lists.map ints)), i64 x] _ (fun mz vs => ∃ (k : Nat), mz = lists.length - k ∧ (k ≤ lists.length) ∧ (∀ l ∈ lists.take k, ¬ bhd x l) ∧ vs = [i64 k]) (lists.length) rfl rfl (le_len hC rfl) ⟨rfl, rfl, rfl⟩ ⟨0, rfl, Nat.zero_le _, (by simp), rfl⟩ ?_
  rintro mz vs - ⟨k, rfl, hk, hf, rfl⟩
  refine vc_stN ?_
  refine vc_seq fun K4 hK4 => ?_
  refine vc_seq fun K5 hK5 => ?_
  refine vc_region ?_
  refine vo_move_pv rfl rfl ?_
  refine vo_move_pv rfl rfl ?_
  refine vo_len_pv rfl rfl Try.underlying22 ?_
  refine vo_binI rfl rfl rfl rfl trivial ?_
  refine vo_nil ?_
  refine hK5 _ ?_
  refine vc_cond rfl (fun hc1 => ?_) (fun hc1 => ?_)
  · try simp only [decide_eq_true_eq, decide_eq_false_iff_not, beq_iff_eq, bne_iff_ne, beq_eq_false_iff_ne, bne_eq_false_iff_eq, Bool.not_eq_true, Bool.not_eq_false, Bool.not_eq_eq_eq_not, Bool.not_true, Bool.not_false, List.length_map, Int.not_lt, Int.not_le, ne_eq, Decidable.not_not] at hc1
    refine vc_skip ?_
    refine hK4 _ ?_
    refine vc_seq fun K6 hK6 => ?_
    refine vc_block ?_
    refine vc_seq fun K7 hK7 => ?_
    refine vc_region ?_
    refine vo_move_pv rfl rfl ?_
    refine vo_move_pv rfl rfl ?_
    refine vo_index_pv (.sl none 1 []) rfl rfl rfl E22.und inf36 sz36 sd sd ?_
    simp only [Int.toNat_natCast, Int.toNat_zero, getD_ints, getD_intss, getD_bools, getD_bytes, PV.cells]
    refine vo_load_adr rfl rfl Try.underlying36 rfl ?_
    refine vo_move_pv rfl rfl ?_
    refine vo_call0 Try.func73 rfl rfl rfl rfl (placeIn_sat (lens hllists _ (by omega))) ?_
    rintro _ _ ⟨rfl, rfl⟩
    refine ⟨rfl, rfl, .inl rfl, ?_⟩
    refine vo_binI rfl rfl rfl rfl trivial ?_
    refine vo_nil ?_
    refine hK7 _ ?_
    refine vc_cond rfl (fun hc2 => ?_) (fun hc2 => ?_)
    · try simp only [decide_eq_true_eq, decide_eq_false_iff_not, beq_iff_eq, bne_iff_ne, beq_eq_false_iff_ne, bne_eq_false_iff_eq, Bool.not_eq_true, Bool.not_eq_false, Bool.not_eq_eq_eq_not, Bool.not_true, Bool.not_false, List.length_map, Int.not_lt, Int.not_le, ne_eq, Decidable.not_not] at hc2
      refine vc_seq fun K8 hK8 => ?_
      refine vc_region ?_
      refine vo_assign_pv rfl rfl ?_
      refine vo_nil ?_
      refine hK8 _ ?_
      refine vc_ret ?_
      change retPv _ _ _ _ _
      refine retPv_mk rfl rfl rfl ⟨?_, rfl⟩
      refine (congrArg (fun b => [bo b]) (?_ : _ = _) : [bo _] = [bo _])
      exact bF (fun h => h (anyB_of (k := k) (by omega) (by omega)))
    · try simp only [decide_eq_true_eq, decide_eq_false_iff_not, beq_iff_eq, bne_iff_ne, beq_eq_false_iff_ne, bne_eq_false_iff_eq, Bool.not_eq_true, Bool.not_eq_false, Bool.not_eq_eq_eq_not, Bool.not_true, Bool.not_false, List.length_map, Int.not_lt, Int.not_le, ne_eq, Decidable.not_not] at hc2
      refine vc_skip ?_
      refine hK6 _ ?_
      refine vc_region ?_
      refine vo_move_pv rfl rfl ?_
      refine vo_binI rfl rfl rfl rfl sd ?_
      refine vo_assign_pv rfl rfl ?_
      refine vo_nil ?_
      change againF _ _ _ _ _ _ _ _ _
      refine againF_mk rfl rfl rfl rfl rfl rfl ⟨_, ?_, k + 1, rfl, ?_, ?_, rfl⟩
      · omega
      · omega
      · exact anyB_succ (by omega) hf (by omega)
  · try simp only [decide_eq_true_eq, decide_eq_false_iff_not, beq_iff_eq, bne_iff_ne, beq_eq_false_iff_ne, bne_eq_false_iff_eq, Bool.not_eq_true, Bool.not_eq_false, Bool.not_eq_eq_eq_not, Bool.not_true, Bool.not_false, List.length_map, Int.not_lt, Int.not_le, ne_eq, Decidable.not_not] at hc1
    refine vc_exit ?_
    refine hK2 _ ?_
    refine vc_seq fun K9 hK9 => ?_
    refine vc_region ?_
    refine vo_assign_pv rfl rfl ?_
    refine vo_nil ?_
    refine hK9 _ ?_
    refine vc_ret ?_
    change retPv _ _ _ _ _
    refine retPv_mk rfl rfl rfl ⟨?_, rfl⟩
    refine (congrArg (fun b => [bo b]) (?_ : _ = _) : [bo _] = [bo _])
    exact bT (anyB_no (by omega) hf)


theorem firstFree_sat {nl0 : Option Bool} {lists : List (List Int)} (hlists : lists.length < 1000000000) (hllists : ∀ l ∈ lists, l.length < 1000000000) : SatAt Try.prog 185 [.pv false (.sl nl0 1 (lists.map ints))] [] (fun res rows => res = [i64 ((fhM lists).getD 0), bo (fhM lists).isSome] ∧ rows = []) := by
  refine sat_entry (ts := [2, 3]) Try.func185 rfl rfl (by decide) (Nat.le_of_ble_eq_true rfl) fun C hC => ?_
  rw [Try.ntmps185]
  replace hC : C.nb = 0 := hC
  refine vc_seq fun K1 hK1 => ?_
  refine vc_region ?_
  refine vo_assign_pv rfl rfl ?_
  refine vo_assign_pv rfl rfl ?_
  refine vo_nil ?_
  refine hK1 _ ?_
  refine vc_seq fun K2 hK2 => ?_
  refine vc_seq fun K3 hK3 => ?_
  refine vc_region ?_
  refine vo_move_pv rfl rfl ?_
  refine vo_len_pv rfl rfl Try.underlying22 ?_
  refine vo_move_pv rfl rfl ?_
  refine vo_nil ?_
  refine hK3 _ ?_
  refine vc_block ?_
  refine vc_stN ?_
  refine vc_loopF [0, 7, 8] [9] [.pv false (.sl nl0 1 (lists.map ints)), .pv false (.sl nl0 1 (lists.map ints)), i64 (lists.map ints).length] _ (fun mz vs => ∃ (k : Nat), mz = lists.length - k ∧ (k ≤ lists.length) ∧ (fhM lists = fhF lists (lists.drop k)) ∧ vs = [i64 k]) (lists.length) rfl rfl (le_len hC rfl) ⟨rfl, rfl, rfl⟩ ⟨0, rfl, Nat.zero_le _, rfl, rfl⟩ ?_
  rintro mz vs - ⟨k, rfl, hk, hf, rfl⟩
  refine vc_stN ?_
  refine vc_seq fun K4 hK4 => ?_
  refine vc_region ?_
  refine vo_binI rfl rfl rfl rfl trivial ?_
  refine vo_nil ?_
  refine hK4 _ ?_
  refine vc_seq fun K5 hK5 => ?_
  refine vc_cond rfl (fun hc1 => ?_) (fun hc1 => ?_)
  · try simp only [decide_eq_true_eq, decide_eq_false_iff_not, beq_iff_eq, bne_iff_ne, beq_eq_false_iff_ne, bne_eq_false_iff_eq, Bool.not_eq_true, Bool.not_eq_false, Bool.not_eq_eq_eq_not, Bool.not_true, Bool.not_false, List.length_map, Int.not_lt, Int.not_le, ne_eq, Decidable.not_not] at hc1
    refine vc_skip ?_
    refine hK5 _ ?_
    refine vc_seq fun K6 hK6 => ?_
    refine vc_block ?_
    refine vc_seq fun K7 hK7 => ?_
    refine vc_region ?_
    refine vo_index_pv (.sl none 1 []) rfl rfl rfl E22.und inf36 sz36 sd sd ?_
    simp only [Int.toNat_natCast, Int.toNat_zero, getD_ints, getD_intss, getD_bools, getD_bytes, PV.cells]
    refine vo_load_adr rfl rfl Try.underlying36 rfl ?_
    refine vo_assign_pv rfl rfl ?_
    refine vo_nil ?_
    refine hK7 _ ?_
    refine vc_seq fun K8 hK8 => ?_
    refine vc_region ?_
    refine vo_move_pv rfl rfl ?_
    refine vo_len_pv rfl rfl Try.underlying36 ?_
    refine vo_binI rfl rfl rfl rfl trivial ?_
    refine vo_move_pv rfl rfl ?_
    refine vo_split 16 rfl (fun hg2 => ?_) (fun hg2 => ?_)
    · try simp only [decide_eq_true_eq, decide_eq_false_iff_not, beq_iff_eq, bne_iff_ne, beq_eq_false_iff_ne, bne_eq_false_iff_eq, Bool.not_eq_true, Bool.not_eq_false, Bool.not_eq_eq_eq_not, Bool.not_true, Bool.not_false, List.length_map, Int.not_lt, Int.not_le, ne_eq, Decidable.not_not] at hg2
      refine vo_guard_on rfl rfl rfl ?_
      refine vo_move_pv rfl rfl ?_
      refine vo_guard_on rfl rfl rfl ?_
      refine vo_move_pv rfl rfl ?_
      refine vo_guard_on rfl rfl rfl ?_
      refine vo_index_pv (.int .i64 0) rfl rfl rfl E36.und inf3 sz3 sd sd ?_
      simp only [Int.toNat_natCast, Int.toNat_zero, getD_ints, getD_intss, getD_bools, getD_bytes, PV.cells]
      refine vo_guard_on rfl rfl rfl ?_
      refine vo_load_adr rfl rfl Try.underlying3 rfl ?_
      refine vo_guard_on rfl rfl rfl ?_
      refine vo_call0 Try.func193 rfl rfl rfl rfl (isBehind_sat hlists hllists) ?_
      rintro _ _ ⟨rfl, rfl⟩
      refine ⟨rfl, rfl, .inl rfl, ?_⟩
      refine vo_guard_on rfl rfl rfl ?_
      refine vo_not rfl rfl ?_
      refine vo_pick_t rfl rfl ?_
      refine vo_nil ?_
      refine hK8 _ ?_
      refine vc_cond rfl (fun hc3 => ?_) (fun hc3 => ?_)
      · try simp only [decide_eq_true_eq, decide_eq_false_iff_not, beq_iff_eq, bne_iff_ne, beq_eq_false_iff_ne, bne_eq_false_iff_eq, Bool.not_eq_true, Bool.not_eq_false, Bool.not_eq_eq_eq_not, Bool.not_true, Bool.not_false, List.length_map, Int.not_lt, Int.not_le, ne_eq, Decidable.not_not] at hc3
        refine vc_seq fun K9 hK9 => ?_
        refine vc_region ?_
        refine vo_move_pv rfl rfl ?_
        refine vo_index_pv (.int .i64 0) rfl rfl rfl E36.und inf3 sz3 sd sd ?_
        simp only [Int.toNat_natCast, Int.toNat_zero, getD_ints, getD_intss, getD_bools, getD_bytes, PV.cells]
        refine vo_load_adr rfl rfl Try.underlying3 rfl ?_
        refine vo_assign_pv rfl rfl ?_
        refine vo_assign_pv rfl rfl ?_
        refine vo_nil ?_
        refine hK9 _ ?_
        refine vc_ret ?_
        change retPv _ _ _ _ _
        refine retPv_mk rfl rfl rfl ⟨?_, rfl⟩
        have e : fhM lists = some ((lists.getD k []).getD 0 0) := by rw [hf, fhF_drop _ _ _ (by omega), freeH_t (by omega) (by simp_all)]
        rw [e]; rfl
      · try simp only [decide_eq_true_eq, decide_eq_false_iff_not, beq_iff_eq, bne_iff_ne, beq_eq_false_iff_ne, bne_eq_false_iff_eq, Bool.not_eq_true, Bool.not_eq_false, Bool.not_eq_eq_eq_not, Bool.not_true, Bool.not_false, List.length_map, Int.not_lt, Int.not_le, ne_eq, Decidable.not_not] at hc3
        refine vc_skip ?_
        refine hK6 _ ?_
        refine vc_region ?_
        refine vo_binI rfl rfl rfl rfl sd ?_
        refine vo_move_pv rfl rfl ?_
        refine vo_nil ?_
        change againF _ _ _ _ _ _ _ _ _
        refine againF_mk rfl rfl rfl rfl rfl rfl ⟨_, ?_, k + 1, rfl, ?_, ?_, rfl⟩
        · omega
        · omega
        · rw [hf, fhF_drop _ _ _ (by omega), freeH_f (by simp_all)]
    · try simp only [decide_eq_true_eq, decide_eq_false_iff_not, beq_iff_eq, bne_iff_ne, beq_eq_false_iff_ne, bne_eq_false_iff_eq, Bool.not_eq_true, Bool.not_eq_false, Bool.not_eq_eq_eq_not, Bool.not_true, Bool.not_false, List.length_map, Int.not_lt, Int.not_le, ne_eq, Decidable.not_not] at hg2
      refine vo_guard_off rfl rfl rfl rfl rfl ?_
      refine vo_guard_off rfl rfl rfl rfl rfl ?_
      refine vo_guard_off rfl rfl rfl rfl rfl ?_
      refine vo_guard_off rfl rfl rfl rfl rfl ?_
      refine vo_guard_off rfl rfl rfl rfl rfl ?_
      refine vo_guard_off rfl rfl rfl rfl rfl ?_
      refine vo_pick_f rfl rfl ?_
      refine vo_nil ?_
      refine hK8 _ ?_
      refine vc_cond_f rfl ?_
      refine vc_skip ?_
      refine hK6 _ ?_
      refine vc_region ?_
      refine vo_binI rfl rfl rfl rfl sd ?_
      refine vo_move_pv rfl rfl ?_
      refine vo_nil ?_
      change againF _ _ _ _ _ _ _ _ _
      refine againF_mk rfl rfl rfl rfl rfl rfl ⟨_, ?_, k + 1, rfl, ?_, ?_, rfl⟩
      · omega
      · omega
      · rw [hf, fhF_drop _ _ _ (by omega), freeH_f (by simp_all)]
  · try simp only [decide_eq_true_eq, decide_eq_false_iff_not, beq_iff_eq, bne_iff_ne, beq_eq_false_iff_ne, bne_eq_false_iff_eq, Bool.not_eq_true, Bool.not_eq_false, Bool.not_eq_eq_eq_not, Bool.not_true, Bool.not_false, List.length_map, Int.not_lt, Int.not_le, ne_eq, Decidable.not_not] at hc1
    refine vc_exit ?_
    refine hK2 _ ?_
    refine vc_seq fun K10 hK10 => ?_
    refine vc_region ?_
    refine vo_assign_pv rfl rfl ?_
    refine vo_nil ?_
    refine hK10 _ ?_
    refine vc_seq fun K11 hK11 => ?_
    refine vc_region ?_
    refine vo_move_pv rfl rfl ?_
    refine vo_assign_pv rfl rfl ?_
    refine vo_assign_pv rfl rfl ?_
    refine vo_nil ?_
    refine hK11 _ ?_
    refine vc_ret ?_
    change retPv _ _ _ _ _
    refine retPv_mk rfl rfl rfl ⟨?_, rfl⟩
    have e : fhM lists = none := by rw [hf, List.drop_of_length_le (by omega)]; rfl
    rw [e]; rfl


theorem firstHead_sat {nl0 : Option Bool} {lists : List (List Int)} (hlists : lists.length < 1000000000) (hllists : ∀ l ∈ lists, l.length < 1000000000) : SatAt Try.prog 156 [.pv false (.sl nl0 1 (lists.map ints))] [] (fun res rows => res = [i64 ((fhM lists).getD 0), bo (fhM lists).isSome] ∧ rows = []) := by
  refine sat_entry (ts := [2, 3]) Try.func156 rfl rfl (by decide) (Nat.le_of_ble_eq_true rfl) fun C hC => ?_
  rw [Try.ntmps156]
  replace hC : C.nb = 0 := hC
  refine vc_seq fun K1 hK1 => ?_
  refine vc_region ?_
  refine vo_assign_pv rfl rfl ?_
  refine vo_assign_pv rfl rfl ?_
  refine vo_nil ?_
  refine hK1 _ ?_
  refine vc_seq fun K2 hK2 => ?_
  refine vc_seq fun K3 hK3 => ?_
  refine vc_region ?_
  refine vo_assign_pv rfl rfl ?_
  refine vo_nil ?_
  refine hK3 _ ?_
  refine vc_block ?_
  refine vc_stN ?_
  refine vc_loopF [0] [4] [.pv false (.sl nl0 1 (lists.map ints))] _ (fun mz vs => ∃ (k : Nat), mz = lists.length - k ∧ (k ≤ lists.length) ∧ (fhM lists = fhF lists (lists.drop k)) ∧ vs = [i64 k]) (lists.length) rfl rfl (le_len hC rfl) ⟨rfl, rfl, rfl⟩ ⟨0, rfl, Nat.zero_le _, rfl, rfl⟩ ?_
  rintro mz vs - ⟨k, rfl, hk, hf, rfl⟩
  refine vc_stN ?_
  refine vc_seq fun K4 hK4 => ?_
  refine vc_seq fun K5 hK5 => ?_
  refine vc_region ?_
  refine vo_move_pv rfl rfl ?_
  refine vo_move_pv rfl rfl ?_
  refine vo_len_pv rfl rfl Try.underlying22 ?_
  refine vo_binI rfl rfl rfl rfl trivial ?_
  refine vo_nil ?_
  refine hK5 _ ?_
  refine vc_cond rfl (fun hc1 => ?_) (fun hc1 => ?_)
  · try simp only [decide_eq_true_eq, decide_eq_false_iff_not, beq_iff_eq, bne_iff_ne, beq_eq_false_iff_ne, bne_eq_false_iff_eq, Bool.not_eq_true, Bool.not_eq_false, Bool.not_eq_eq_eq_not, Bool.not_true, Bool.not_false, List.length_map, Int.not_lt, Int.not_le, ne_eq, Decidable.not_not] at hc1
    refine vc_skip ?_
    refine hK4 _ ?_
    refine vc_seq fun K6 hK6 => ?_
    refine vc_block ?_
    refine vc_seq fun K7 hK7 => ?_
    refine vc_region ?_
    refine vo_move_pv rfl rfl ?_
    refine vo_move_pv rfl rfl ?_
    refine vo_index_pv (.sl none 1 []) rfl rfl rfl E22.und inf36 sz36 sd sd ?_
    simp only [Int.toNat_natCast, Int.toNat_zero, getD_ints, getD_intss, getD_bools, getD_bytes, PV.cells]
    refine vo_load_adr rfl rfl Try.underlying36 rfl ?_
    refine vo_len_pv rfl rfl Try.underlying36 ?_
    refine vo_binI rfl rfl rfl rfl trivial ?_
    refine vo_move_pv rfl rfl ?_
    refine vo_split 17 rfl (fun hg2 => ?_) (fun hg2 => ?_)
    · try simp only [decide_eq_true_eq, decide_eq_false_iff_not, beq_iff_eq, bne_iff_ne, beq_eq_false_iff_ne, bne_eq_false_iff_eq, Bool.not_eq_true, Bool.not_eq_false, Bool.not_eq_eq_eq_not, Bool.not_true, Bool.not_false, List.length_map, Int.not_lt, Int.not_le, ne_eq, Decidable.not_not] at hg2
      refine vo_guard_on rfl rfl rfl ?_
      refine vo_move_pv rfl rfl ?_
      refine vo_guard_on rfl rfl rfl ?_
      refine vo_move_pv rfl rfl ?_
      refine vo_guard_on rfl rfl rfl ?_
      refine vo_move_pv rfl rfl ?_
      refine vo_guard_on rfl rfl rfl ?_
      refine vo_index_pv (.sl none 1 []) rfl rfl rfl E22.und inf36 sz36 sd sd ?_
      simp only [Int.toNat_natCast, Int.toNat_zero, getD_ints, getD_intss, getD_bools, getD_bytes, PV.cells]
      refine vo_guard_on rfl rfl rfl ?_
      refine vo_load_adr rfl rfl Try.underlying36 rfl ?_
      refine vo_guard_on rfl rfl rfl ?_
      refine vo_index_pv (.int .i64 0) rfl rfl rfl E36.und inf3 sz3 sd sd ?_
      simp only [Int.toNat_natCast, Int.toNat_zero, getD_ints, getD_intss, getD_bools, getD_bytes, PV.cells]
      refine vo_guard_on rfl rfl rfl ?_
      refine vo_load_adr rfl rfl Try.underlying3 rfl ?_
      refine vo_guard_on rfl rfl rfl ?_
      refine vo_call0 Try.func173 rfl rfl rfl rfl (goodHead_sat hlists hllists) ?_
      rintro _ _ ⟨rfl, rfl⟩
      refine ⟨rfl, rfl, .inl rfl, ?_⟩
      refine vo_pick_t rfl rfl ?_
      refine vo_nil ?_
      refine hK7 _ ?_
      refine vc_cond rfl (fun hc3 => ?_) (fun hc3 => ?_)
      · try simp only [decide_eq_true_eq, decide_eq_false_iff_not, beq_iff_eq, bne_iff_ne, beq_eq_false_iff_ne, bne_eq_false_iff_eq, Bool.not_eq_true, Bool.not_eq_false, Bool.not_eq_eq_eq_not, Bool.not_true, Bool.not_false, List.length_map, Int.not_lt, Int.not_le, ne_eq, Decidable.not_not] at hc3
        refine vc_seq fun K8 hK8 => ?_
        refine vc_region ?_
        refine vo_move_pv rfl rfl ?_
        refine vo_move_pv rfl rfl ?_
        refine vo_index_pv (.sl none 1 []) rfl rfl rfl E22.und inf36 sz36 sd sd ?_
        simp only [Int.toNat_natCast, Int.toNat_zero, getD_ints, getD_intss, getD_bools, getD_bytes, PV.cells]
        refine vo_load_adr rfl rfl Try.underlying36 rfl ?_
        refine vo_index_pv (.int .i64 0) rfl rfl rfl E36.und inf3 sz3 sd sd ?_
        simp only [Int.toNat_natCast, Int.toNat_zero, getD_ints, getD_intss, getD_bools, getD_bytes, PV.cells]
        refine vo_load_adr rfl rfl Try.underlying3 rfl ?_
        refine vo_assign_pv rfl rfl ?_
        refine vo_assign_pv rfl rfl ?_
        refine vo_nil ?_
        refine hK8 _ ?_
        refine vc_ret ?_
        change retPv _ _ _ _ _
        refine retPv_mk rfl rfl rfl ⟨?_, rfl⟩
        have e : fhM lists = some ((lists.getD k []).getD 0 0) := by rw [hf, fhF_drop _ _ _ (by omega), freeH_t (by omega) (by simp_all)]
        rw [e]; rfl
      · try simp only [decide_eq_true_eq, decide_eq_false_iff_not, beq_iff_eq, bne_iff_ne, beq_eq_false_iff_ne, bne_eq_false_iff_eq, Bool.not_eq_true, Bool.not_eq_false, Bool.not_eq_eq_eq_not, Bool.not_true, Bool.not_false, List.length_map, Int.not_lt, Int.not_le, ne_eq, Decidable.not_not] at hc3
        refine vc_skip ?_
        refine hK6 _ ?_
        refine vc_region ?_
        refine vo_move_pv rfl rfl ?_
        refine vo_binI rfl rfl rfl rfl sd ?_
        refine vo_assign_pv rfl rfl ?_
        refine vo_nil ?_
        change againF _ _ _ _ _ _ _ _ _
        refine againF_mk rfl rfl rfl rfl rfl rfl ⟨_, ?_, k + 1, rfl, ?_, ?_, rfl⟩
        · omega
        · omega
        · rw [hf, fhF_drop _ _ _ (by omega), freeH_f (by simp_all)]
    · try simp only [decide_eq_true_eq, decide_eq_false_iff_not, beq_iff_eq, bne_iff_ne, beq_eq_false_iff_ne, bne_eq_false_iff_eq, Bool.not_eq_true, Bool.not_eq_false, Bool.not_eq_eq_eq_not, Bool.not_true, Bool.not_false, List.length_map, Int.not_lt, Int.not_le, ne_eq, Decidable.not_not] at hg2
      refine vo_guard_off rfl rfl rfl rfl rfl ?_
      refine vo_guard_off rfl rfl rfl rfl rfl ?_
      refine vo_guard_off rfl rfl rfl rfl rfl ?_
      refine vo_guard_off rfl rfl rfl rfl rfl ?_
      refine vo_guard_off rfl rfl rfl rfl rfl ?_
      refine vo_guard_off rfl rfl rfl rfl rfl ?_
      refine vo_guard_off rfl rfl rfl rfl rfl ?_
      refine vo_guard_off rfl rfl rfl rfl rfl ?_
      refine vo_pick_f rfl rfl ?_
      refine vo_nil ?_
      refine hK7 _ ?_
      refine vc_cond_f rfl ?_
      refine vc_skip ?_
      refine hK6 _ ?_
      refine vc_region ?_
      refine vo_move_pv rfl rfl ?_
      refine vo_binI rfl rfl rfl rfl sd ?_
      refine vo_assign_pv rfl rfl ?_
      refine vo_nil ?_
      change againF _ _ _ _ _ _ _ _ _
      refine againF_mk rfl rfl rfl rfl rfl rfl ⟨_, ?_, k + 1, rfl, ?_, ?_, rfl⟩
      · omega
      · omega
      · rw [hf, fhF_drop _ _ _ (by omega), freeH_f (by simp_all)]
  · try simp only [decide_eq_true_eq, decide_eq_false_iff_not, beq_iff_eq, bne_iff_ne, beq_eq_false_iff_ne, bne_eq_false_iff_eq, Bool.not_eq_true, Bool.not_eq_false, Bool.not_eq_eq_eq_not, Bool.not_true, Bool.not_false, List.length_map, Int.not_lt, Int.not_le, ne_eq, Decidable.not_not] at hc1
    refine vc_exit ?_
    refine hK2 _ ?_
    refine vc_seq fun K9 hK9 => ?_
    refine vc_region ?_
    refine vo_assign_pv rfl rfl ?_
    refine vo_assign_pv rfl rfl ?_
    refine vo_nil ?_
    refine hK9 _ ?_
    refine vc_ret ?_
    change retPv _ _ _ _ _
    refine retPv_mk rfl rfl rfl ⟨?_, rfl⟩
    have e : fhM lists = none := by rw [hf, List.drop_of_length_le (by omega)]; rfl
    rw [e]; rfl

end Go.Vl

namespace Go.Vl
set_option linter.unusedVariables false
set_option linter.unusedSimpArgs false
open Go.Proofs
theorem take_dl (l : List Int) : (l.drop 1).take ((List.map intP l).length - 1) = l.drop 1 := List.take_of_length_le (by simp)

theorem withoutHead_sat {nl0 : Option Bool} {lists : List (List Int)} {x : Int} (hlists : lists.length < 1000000000) (hllists : ∀ l ∈ lists, l.length < 1000000000) : SatAt Try.prog 186 [.pv false (.sl nl0 1 (lists.map ints)), i64 x] [] (fun res rows => res = [.ref 0] ∧ rows = [Row.own 36 1 (some false) false ((lists.map (tk x)).map ints)]) := by
  refine sat_entry_g (ts := [4]) Try.func186 rfl rfl (by decide) (Nat.le_of_ble_eq_true rfl) fun C hC => ?_
  rw [Try.ntmps186]
  replace hC : C.nb = 0 := hC
  refine vc_seq fun K1 hK1 => ?_
  refine vc_region ?_
  refine vo_assign_pv rfl rfl ?_
  refine vo_nil ?_
  refine hK1 _ ?_
  refine vc_seq fun K2 hK2 => ?_
  refine vc_region ?_
  refine vo_move_pv rfl rfl ?_
  refine vo_len_pv rfl rfl Try.underlying22 ?_
  refine vo_make E22 rfl rfl rfl sd sd sd ?_
  refine vo_assign_ref rfl rfl ?_
  refine vo_nil ?_
  refine hK2 _ ?_
  refine vc_seq fun K3 hK3 => ?_
  refine vc_region ?_
  refine vo_move_ref rfl rfl ?_
  refine vo_move_pv rfl rfl ?_
  refine vo_copy rfl rfl rfl rfl Try.underlying22 inf36 sz36 (by simp) ?_
  refine vo_stN ?_
  refine vo_nil ?_
  refine hK3 _ ?_
  refine vc_seq fun K4 hK4 => ?_
  refine vc_seq fun K5 hK5 => ?_
  refine vc_region ?_
  refine vo_move_ref rfl rfl ?_
  refine vo_len_ref rfl rfl rfl Try.underlying22 ?_
  refine vo_move_pv rfl rfl ?_
  refine vo_nil ?_
  refine hK5 _ ?_
  refine vc_block ?_
  refine vc_stN ?_
  refine vc_loop [1, 5, 14, 15, 16] (fun mz vs rows => ∃ (k : Nat), mz = lists.length - k ∧ (k ≤ lists.length) ∧ vs = [i64 x, .ref 0, .ref 0, i64 ((lists.map ints).length : Nat), i64 k] ∧ rows = [Row.own 36 1 (some false) false (((lists.take k).map (tk x) ++ lists.drop k).map ints)]) (lists.length) (le_len hC rfl) ⟨rfl, rfl⟩ ⟨0, rfl, Nat.zero_le _, rfl, rfl⟩ ?_
  rintro mz vs rows - - ⟨k, rfl, hk, rfl, rfl⟩
  have hW : ((lists.take k).map (tk x) ++ lists.drop k).length = lists.length := by rw [List.length_append, List.length_map, List.length_take, List.length_drop]; omega
  have hE : k < lists.length → _ := fun h => map_at_tk (ls := lists) (k := k) h x
  refine vc_seq fun K6 hK6 => ?_
  refine vc_region ?_
  refine vo_binI rfl rfl rfl rfl trivial ?_
  refine vo_nil ?_
  refine hK6 _ ?_
  refine vc_seq fun K7 hK7 => ?_
  refine vc_cond rfl (fun hc1 => ?_) (fun hc1 => ?_)
  · try simp only [decide_eq_true_eq, decide_eq_false_iff_not, beq_iff_eq, bne_iff_ne, beq_eq_false_iff_ne, bne_eq_false_iff_eq, Bool.not_eq_true, Bool.not_eq_false, Bool.not_eq_eq_eq_not, Bool.not_true, Bool.not_false, List.length_map, Int.not_lt, Int.not_le, ne_eq, Decidable.not_not] at hc1
    refine vc_skip ?_
    refine hK7 _ ?_
    refine vc_seq fun K8 hK8 => ?_
    refine vc_block ?_
    refine vc_seq fun K9 hK9 => ?_
    refine vc_region ?_
    refine vo_move_pv rfl rfl ?_
    refine vo_index_ref rfl rfl rfl rfl E22.und inf36 sz36 sd sd ?_
    try simp only [Int.toNat_natCast]
    refine vo_load_own rfl rfl rfl Try.underlying36 rfl sd (getD_intss _ _) rfl ?_
    try simp only [Int.toNat_natCast]
    refine vo_assign_pv rfl rfl ?_
    refine vo_assign_pv rfl rfl ?_
    refine vo_nil ?_
    refine hK9 _ ?_
    refine vc_seq fun K10 hK10 => ?_
    refine vc_region ?_
    refine vo_move_pv rfl rfl ?_
    refine vo_len_pv rfl rfl Try.underlying36 ?_
    refine vo_binI rfl rfl rfl rfl trivial ?_
    refine vo_move_pv rfl rfl ?_
    refine vo_split 24 rfl (fun hg2 => ?_) (fun hg2 => ?_)
    · try simp only [decide_eq_true_eq, decide_eq_false_iff_not, beq_iff_eq, bne_iff_ne, beq_eq_false_iff_ne, bne_eq_false_iff_eq, Bool.not_eq_true, Bool.not_eq_false, Bool.not_eq_eq_eq_not, Bool.not_true, Bool.not_false, List.length_map, Int.not_lt, Int.not_le, ne_eq, Decidable.not_not] at hg2
      refine vo_guard_on rfl rfl rfl ?_
      refine vo_move_pv rfl rfl ?_
      refine vo_guard_on rfl rfl rfl ?_
      refine vo_index_pv (.int .i64 0) rfl rfl rfl E36.und inf3 sz3 sd sd ?_
      simp only [Int.toNat_natCast, Int.toNat_zero, getD_ints, getD_intss, getD_bools, getD_bytes, PV.cells]
      refine vo_guard_on rfl rfl rfl ?_
      refine vo_load_adr rfl rfl Try.underlying3 rfl ?_
      refine vo_guard_on rfl rfl rfl ?_
      refine vo_move_pv rfl rfl ?_
      refine vo_guard_on rfl rfl rfl ?_
      refine vo_binI rfl rfl rfl rfl trivial ?_
      refine vo_pick_t rfl rfl ?_
      refine vo_nil ?_
      refine hK10 _ ?_
      refine vc_cond rfl (fun hc3 => ?_) (fun hc3 => ?_)
      · try simp only [decide_eq_true_eq, decide_eq_false_iff_not, beq_iff_eq, bne_iff_ne, beq_eq_false_iff_ne, bne_eq_false_iff_eq, Bool.not_eq_true, Bool.not_eq_false, Bool.not_eq_eq_eq_not, Bool.not_true, Bool.not_false, List.length_map, Int.not_lt, Int.not_le, ne_eq, Decidable.not_not] at hc3
        refine vc_region ?_
        refine vo_move_ref rfl rfl ?_
        refine vo_move_pv rfl rfl ?_
        refine vo_move_pv rfl rfl ?_
        refine vo_slice_pv rfl rfl rfl rfl E36.und inf3 sz3 sd sd sd ?_
        simp only [Int.toNat_natCast, Int.toNat_zero, List.drop_zero, Nat.sub_zero, ← List.map_drop, ← List.map_take]
        refine vo_index_ref rfl rfl rfl rfl E22.und inf36 sz36 sd sd ?_
        try simp only [Int.toNat_natCast]
        refine vo_store_own rfl rfl rfl inf36 sz36 (by decide) rfl sd ?_
        try simp only [set_ints, set_intss, set_bools, rep_bools, rep_ints, Int.toNat_natCast, Int.toNat_zero]
        refine vo_nil ?_
        refine hK8 _ ?_
        refine vc_region ?_
        refine vo_binI rfl rfl rfl rfl sd ?_
        refine vo_move_pv rfl rfl ?_
        refine vo_nil ?_
        change again _ _ _ _ _ _
        refine again_mk rfl rfl rfl rfl ⟨_, ?_, k + 1, rfl, ?_, rfl, (congrArg (fun l => [Row.own 36 1 (some false) false (List.map ints l)]) (show _ = (lists.take (k+1)).map (tk x) ++ lists.drop (k+1) by rw [← map_set_tk (by omega), tk_t (by simp_all) (by simp_all)]; simp_all [List.take_of_length_le]))⟩
        · omega
        · omega
      · try simp only [decide_eq_true_eq, decide_eq_false_iff_not, beq_iff_eq, bne_iff_ne, beq_eq_false_iff_ne, bne_eq_false_iff_eq, Bool.not_eq_true, Bool.not_eq_false, Bool.not_eq_eq_eq_not, Bool.not_true, Bool.not_false, List.length_map, Int.not_lt, Int.not_le, ne_eq, Decidable.not_not] at hc3
        refine vc_skip ?_
        refine hK8 _ ?_
        refine vc_region ?_
        refine vo_binI rfl rfl rfl rfl sd ?_
        refine vo_move_pv rfl rfl ?_
        refine vo_nil ?_
        change again _ _ _ _ _ _
        refine again_mk rfl rfl rfl rfl ⟨_, ?_, k + 1, rfl, ?_, rfl, (congrArg (fun l => [Row.own 36 1 (some false) false (List.map ints l)]) (show (lists.take k).map (tk x) ++ lists.drop k = (lists.take (k+1)).map (tk x) ++ lists.drop (k+1) from map_keep_tk (by omega) x (tk_f (by simp_all))))⟩
        · omega
        · omega
    · try simp only [decide_eq_true_eq, decide_eq_false_iff_not, beq_iff_eq, bne_iff_ne, beq_eq_false_iff_ne, bne_eq_false_iff_eq, Bool.not_eq_true, Bool.not_eq_false, Bool.not_eq_eq_eq_not, Bool.not_true, Bool.not_false, List.length_map, Int.not_lt, Int.not_le, ne_eq, Decidable.not_not] at hg2
      refine vo_guard_off rfl rfl rfl rfl rfl ?_
      refine vo_guard_off rfl rfl rfl rfl rfl ?_
      refine vo_guard_off rfl rfl rfl rfl rfl ?_
      refine vo_guard_off rfl rfl rfl rfl rfl ?_
      refine vo_guard_off rfl rfl rfl rfl rfl ?_
      refine vo_pick_f rfl rfl ?_
      refine vo_nil ?_
      refine hK10 _ ?_
      refine vc_cond_f rfl ?_
      refine vc_skip ?_
      refine hK8 _ ?_
      refine vc_region ?_
      refine vo_binI rfl rfl rfl rfl sd ?_
      refine vo_move_pv rfl rfl ?_
      refine vo_nil ?_
      change again _ _ _ _ _ _
      refine again_mk rfl rfl rfl rfl ⟨_, ?_, k + 1, rfl, ?_, rfl, (congrArg (fun l => [Row.own 36 1 (some false) false (List.map ints l)]) (show (lists.take k).map (tk x) ++ lists.drop k = (lists.take (k+1)).map (tk x) ++ lists.drop (k+1) from map_keep_tk (by omega) x (tk_f (by simp_all))))⟩
      · omega
      · omega
  · try simp only [decide_eq_true_eq, decide_eq_false_iff_not, beq_iff_eq, bne_iff_ne, beq_eq_false_iff_ne, bne_eq_false_iff_eq, Bool.not_eq_true, Bool.not_eq_false, Bool.not_eq_eq_eq_not, Bool.not_true, Bool.not_false, List.length_map, Int.not_lt, Int.not_le, ne_eq, Decidable.not_not] at hc1
    refine vc_exit ?_
    refine hK4 _ ?_
    refine vc_seq fun K11 hK11 => ?_
    refine vc_region ?_
    refine vo_move_ref rfl rfl ?_
    refine vo_assign_ref rfl rfl ?_
    refine vo_nil ?_
    refine hK11 _ ?_
    refine vc_ret ?_
    change retG _ _ _ _ _
    refine retG_one 0 hC rfl rfl rfl rfl rfl ?_
    exact ⟨rfl, (congrArg (fun l => [Row.own 36 1 (some false) false (List.map ints l)]) (show (lists.take k).map (tk x) ++ lists.drop k = lists.map (tk x) by rw [take_all (by omega), List.drop_of_length_le (by omega), List.append_nil]))⟩


theorem take_sat {nl0 : Option Bool} {lists : List (List Int)} {x : Int} (hlists : lists.length < 1000000000) (hllists : ∀ l ∈ lists, l.length < 1000000000) : SatAt Try.prog 157 [.pv false (.sl nl0 1 (lists.map ints)), i64 x] [] (fun res rows => res = [.ref 0] ∧ rows = [Row.own 36 1 (some false) false ((lists.map (tk x)).map ints)]) := by
  refine sat_entry_g (ts := [4]) Try.func157 rfl rfl (by decide) (Nat.le_of_ble_eq_true rfl) fun C hC => ?_
  rw [Try.ntmps157]
  replace hC : C.nb = 0 := hC
  refine vc_seq fun K1 hK1 => ?_
  refine vc_region ?_
  refine vo_assign_pv rfl rfl ?_
  refine vo_nil ?_
  refine hK1 _ ?_
  refine vc_seq fun K2 hK2 => ?_
  refine vc_region ?_
  refine vo_buildSlice E22 rfl rfl rfl rfl rfl ?_
  refine vo_assign_ref rfl rfl ?_
  refine vo_nil ?_
  refine hK2 _ ?_
  refine vc_seq fun K3 hK3 => ?_
  refine vc_seq fun K4 hK4 => ?_
  refine vc_region ?_
  refine vo_assign_pv rfl rfl ?_
  refine vo_nil ?_
  refine hK4 _ ?_
  refine vc_block ?_
  refine vc_flagrow 0 rfl ?_
  refine vc_stN ?_
  refine vc_loop [0, 1, 5, 6] (fun mz vs rows => ∃ (k : Nat), mz = lists.length - k ∧ (k ≤ lists.length) ∧ vs = [.pv false (.sl nl0 1 (lists.map ints)), i64 x, .ref 0, i64 k] ∧ rows = [Row.own 36 1 (some false) false (((lists.take k).map (tk x)).map ints)]) (lists.length) (le_len hC rfl) ⟨rfl, rfl⟩ ⟨0, rfl, Nat.zero_le _, rfl, rfl⟩ ?_
  rintro mz vs rows - - ⟨k, rfl, hk, rfl, rfl⟩
  refine vc_seq fun K5 hK5 => ?_
  refine vc_seq fun K6 hK6 => ?_
  refine vc_region ?_
  refine vo_move_pv rfl rfl ?_
  refine vo_move_pv rfl rfl ?_
  refine vo_len_pv rfl rfl Try.underlying22 ?_
  refine vo_binI rfl rfl rfl rfl trivial ?_
  refine vo_nil ?_
  refine hK6 _ ?_
  refine vc_cond rfl (fun hc1 => ?_) (fun hc1 => ?_)
  · try simp only [decide_eq_true_eq, decide_eq_false_iff_not, beq_iff_eq, bne_iff_ne, beq_eq_false_iff_ne, bne_eq_false_iff_eq, Bool.not_eq_true, Bool.not_eq_false, Bool.not_eq_eq_eq_not, Bool.not_true, Bool.not_false, List.length_map, Int.not_lt, Int.not_le, ne_eq, Decidable.not_not] at hc1
    refine vc_skip ?_
    refine hK5 _ ?_
    refine vc_seq fun K7 hK7 => ?_
    refine vc_block ?_
    refine vc_seq fun K8 hK8 => ?_
    refine vc_region ?_
    refine vo_move_pv rfl rfl ?_
    refine vo_move_pv rfl rfl ?_
    refine vo_index_pv (.sl none 1 []) rfl rfl rfl E22.und inf36 sz36 sd sd ?_
    simp only [Int.toNat_natCast, Int.toNat_zero, getD_ints, getD_intss, getD_bools, getD_bytes, PV.cells]
    refine vo_load_adr rfl rfl Try.underlying36 rfl ?_
    refine vo_assign_pv rfl rfl ?_
    refine vo_nil ?_
    refine hK8 _ ?_
    refine vc_seq fun K9 hK9 => ?_
    refine vc_seq fun K10 hK10 => ?_
    refine vc_region ?_
    refine vo_move_pv rfl rfl ?_
    refine vo_len_pv rfl rfl Try.underlying36 ?_
    refine vo_binI rfl rfl rfl rfl trivial ?_
    refine vo_move_pv rfl rfl ?_
    refine vo_split 22 rfl (fun hg2 => ?_) (fun hg2 => ?_)
    · try simp only [decide_eq_true_eq, decide_eq_false_iff_not, beq_iff_eq, bne_iff_ne, beq_eq_false_iff_ne, bne_eq_false_iff_eq, Bool.not_eq_true, Bool.not_eq_false, Bool.not_eq_eq_eq_not, Bool.not_true, Bool.not_false, List.length_map, Int.not_lt, Int.not_le, ne_eq, Decidable.not_not] at hg2
      refine vo_guard_on rfl rfl rfl ?_
      refine vo_move_pv rfl rfl ?_
      refine vo_guard_on rfl rfl rfl ?_
      refine vo_index_pv (.int .i64 0) rfl rfl rfl E36.und inf3 sz3 sd sd ?_
      simp only [Int.toNat_natCast, Int.toNat_zero, getD_ints, getD_intss, getD_bools, getD_bytes, PV.cells]
      refine vo_guard_on rfl rfl rfl ?_
      refine vo_load_adr rfl rfl Try.underlying3 rfl ?_
      refine vo_guard_on rfl rfl rfl ?_
      refine vo_move_pv rfl rfl ?_
      refine vo_guard_on rfl rfl rfl ?_
      refine vo_binI rfl rfl rfl rfl trivial ?_
      refine vo_pick_t rfl rfl ?_
      refine vo_nil ?_
      refine hK10 _ ?_
      refine vc_cond rfl (fun hc3 => ?_) (fun hc3 => ?_)
      · try simp only [decide_eq_true_eq, decide_eq_false_iff_not, beq_iff_eq, bne_iff_ne, beq_eq_false_iff_ne, bne_eq_false_iff_eq, Bool.not_eq_true, Bool.not_eq_false, Bool.not_eq_eq_eq_not, Bool.not_true, Bool.not_false, List.length_map, Int.not_lt, Int.not_le, ne_eq, Decidable.not_not] at hc3
        refine vc_region ?_
        refine vo_move_pv rfl rfl ?_
        refine vo_slice_pv rfl rfl rfl rfl E36.und inf3 sz3 sd sd sd ?_
        simp only [Int.toNat_natCast, Int.toNat_zero, List.drop_zero, Nat.sub_zero, ← List.map_drop, ← List.map_take]
        refine vo_assign_pv rfl rfl ?_
        refine vo_nil ?_
        refine hK9 _ ?_
        refine vc_region ?_
        refine vo_move_ref rfl rfl ?_
        refine vo_move_pv rfl rfl ?_
        refine vo_weaken 32 rfl ?_
        refine vo_buildSlice E22 rfl rfl rfl rfl rfl ?_
        refine vo_append E22 rfl (by omega) rfl rfl rfl sd sd ?_
        refine vo_stN ?_
        try simp only [app_ints, app_intss, app_bools]
        refine vo_assign_ref rfl rfl ?_
        refine vo_nil ?_
        refine hK7 _ ?_
        refine vc_region ?_
        refine vo_move_pv rfl rfl ?_
        refine vo_binI rfl rfl rfl rfl sd ?_
        refine vo_assign_pv rfl rfl ?_
        refine vo_nil ?_
        change again _ _ _ _ _ _
        refine again_mk rfl rfl rfl rfl ⟨_, ?_, k + 1, rfl, ?_, rfl, (congrArg (fun l => [Row.own 36 1 (some false) false (List.map ints l)]) (show (lists.take k).map (tk x) ++ [((lists.getD k []).drop 1).take ((List.map intP (lists.getD k [])).length - 1)] = (lists.take (k+1)).map (tk x) by rw [take_dl, ← map_snoc_tk (by omega), tk_t (by simp_all) (by simp_all)]))⟩
        · omega
        · omega
      · try simp only [decide_eq_true_eq, decide_eq_false_iff_not, beq_iff_eq, bne_iff_ne, beq_eq_false_iff_ne, bne_eq_false_iff_eq, Bool.not_eq_true, Bool.not_eq_false, Bool.not_eq_eq_eq_not, Bool.not_true, Bool.not_false, List.length_map, Int.not_lt, Int.not_le, ne_eq, Decidable.not_not] at hc3
        refine vc_skip ?_
        refine hK9 _ ?_
        refine vc_region ?_
        refine vo_move_ref rfl rfl ?_
        refine vo_move_pv rfl rfl ?_
        refine vo_weaken 32 rfl ?_
        refine vo_buildSlice E22 rfl rfl rfl rfl rfl ?_
        refine vo_append E22 rfl (by omega) rfl rfl rfl sd sd ?_
        refine vo_stN ?_
        try simp only [app_ints, app_intss, app_bools]
        refine vo_assign_ref rfl rfl ?_
        refine vo_nil ?_
        refine hK7 _ ?_
        refine vc_region ?_
        refine vo_move_pv rfl rfl ?_
        refine vo_binI rfl rfl rfl rfl sd ?_
        refine vo_assign_pv rfl rfl ?_
        refine vo_nil ?_
        change again _ _ _ _ _ _
        refine again_mk rfl rfl rfl rfl ⟨_, ?_, k + 1, rfl, ?_, rfl, (congrArg (fun l => [Row.own 36 1 (some false) false (List.map ints l)]) (show (lists.take k).map (tk x) ++ [lists.getD k []] = (lists.take (k+1)).map (tk x) by rw [← map_snoc_tk (by omega), tk_f (by simp_all)]))⟩
        · omega
        · omega
    · try simp only [decide_eq_true_eq, decide_eq_false_iff_not, beq_iff_eq, bne_iff_ne, beq_eq_false_iff_ne, bne_eq_false_iff_eq, Bool.not_eq_true, Bool.not_eq_false, Bool.not_eq_eq_eq_not, Bool.not_true, Bool.not_false, List.length_map, Int.not_lt, Int.not_le, ne_eq, Decidable.not_not] at hg2
      refine vo_guard_off rfl rfl rfl rfl rfl ?_
      refine vo_guard_off rfl rfl rfl rfl rfl ?_
      refine vo_guard_off rfl rfl rfl rfl rfl ?_
      refine vo_guard_off rfl rfl rfl rfl rfl ?_
      refine vo_guard_off rfl rfl rfl rfl rfl ?_
      refine vo_pick_f rfl rfl ?_
      refine vo_nil ?_
      refine hK10 _ ?_
      refine vc_cond_f rfl ?_
      refine vc_skip ?_
      refine hK9 _ ?_
      refine vc_region ?_
      refine vo_move_ref rfl rfl ?_
      refine vo_move_pv rfl rfl ?_
      refine vo_weaken 32 rfl ?_
      refine vo_buildSlice E22 rfl rfl rfl rfl rfl ?_
      refine vo_append E22 rfl (by omega) rfl rfl rfl sd sd ?_
      refine vo_stN ?_
      try simp only [app_ints, app_intss, app_bools]
      refine vo_assign_ref rfl rfl ?_
      refine vo_nil ?_
      refine hK7 _ ?_
      refine vc_region ?_
      refine vo_move_pv rfl rfl ?_
      refine vo_binI rfl rfl rfl rfl sd ?_
      refine vo_assign_pv rfl rfl ?_
      refine vo_nil ?_
      change again _ _ _ _ _ _
      refine again_mk rfl rfl rfl rfl ⟨_, ?_, k + 1, rfl, ?_, rfl, (congrArg (fun l => [Row.own 36 1 (some false) false (List.map ints l)]) (show (lists.take k).map (tk x) ++ [lists.getD k []] = (lists.take (k+1)).map (tk x) by rw [← map_snoc_tk (by omega), tk_f (by simp_all)]))⟩
      · omega
      · omega
  · try simp only [decide_eq_true_eq, decide_eq_false_iff_not, beq_iff_eq, bne_iff_ne, beq_eq_false_iff_ne, bne_eq_false_iff_eq, Bool.not_eq_true, Bool.not_eq_false, Bool.not_eq_eq_eq_not, Bool.not_true, Bool.not_false, List.length_map, Int.not_lt, Int.not_le, ne_eq, Decidable.not_not] at hc1
    refine vc_exit ?_
    refine hK3 _ ?_
    refine vc_seq fun K11 hK11 => ?_
    refine vc_region ?_
    refine vo_move_ref rfl rfl ?_
    refine vo_assign_ref rfl rfl ?_
    refine vo_nil ?_
    refine hK11 _ ?_
    refine vc_ret ?_
    change retG _ _ _ _ _
    refine retG_one 0 hC rfl rfl rfl rfl rfl ?_
    exact ⟨rfl, (congrArg (fun l => [Row.own 36 1 (some false) false (List.map ints l)]) (show (lists.take k).map (tk x) = lists.map (tk x) by rw [take_all (by omega)]))⟩

end Go.Vl

namespace Go.Vl
set_option linter.unusedVariables false
set_option linter.unusedSimpArgs false
open Go.Proofs
theorem mg_step {ls : List (List Int)} {n : Nat} (h : (fhM ls).isSome = true) (hn : tot ls ≤ n) : tot (ls.map (tk ((fhM ls).getD 0))) < tot ls ∧ (mergeF n ls).1 = (fhM ls).getD 0 :: (mergeF (n-1) (ls.map (tk ((fhM ls).getD 0)))).1 ∧ (mergeF n ls).2 = (mergeF (n-1) (ls.map (tk ((fhM ls).getD 0)))).2 := by
  obtain ⟨x, hx⟩ := Option.isSome_iff_exists.1 h
  have h1 := fhM_tot hx
  rw [mergeF_some hx hn, hx]
  exact ⟨h1, rfl, rfl⟩
theorem mg_len {ls : List (List Int)} {x : Int} {N : Nat} (h : ∀ l ∈ ls, l.length < N) : ∀ l ∈ ls.map (tk x), l.length < N := by
  intro l hl
  obtain ⟨l', h1, rfl⟩ := List.mem_map.1 hl
  exact Nat.lt_of_le_of_lt (tk_len x l') (h _ h1)
theorem mg_none {ls : List (List Int)} {n : Nat} (h : ¬ (fhM ls).isSome = true) : mergeF n ls = ([], ls) := mergeF_none (by simpa using h)

theorem mergeAll_sat {nl0 : Option Bool} {lists : List (List Int)} (hlists : lists.length < 1000000000) (hllists : ∀ l ∈ lists, l.length < 1000000000) (ht : tot lists < 1000000000) : SatAt Try.prog 175 [.pv false (.sl nl0 1 (lists.map ints))] [] (fun res rows => res = [.ref 0, .pv false (.sl none 1 ((mergeM lists).2.map ints))] ∧ rows = [Row.own 3 1 none true (((mergeM lists).1).map intP)]) := by
  refine sat_entry_g (ts := [2, 3]) Try.func175 rfl rfl (by decide) (Nat.le_of_ble_eq_true rfl) fun C hC => ?_
  rw [Try.ntmps175]
  replace hC : C.nb = 0 := hC
  refine vc_seq fun K1 hK1 => ?_
  refine vc_region ?_
  refine vo_assign_pv rfl rfl ?_
  refine vo_assign_pv rfl rfl ?_
  refine vo_nil ?_
  refine hK1 _ ?_
  refine vc_seq fun K2 hK2 => ?_
  refine vc_region ?_
  refine vo_assign_pv rfl rfl ?_
  refine vo_nil ?_
  refine hK2 _ ?_
  refine vc_seq fun K3 hK3 => ?_
  refine vc_seq fun K4 hK4 => ?_
  refine vc_region ?_
  refine vo_move_pv rfl rfl ?_
  refine vo_call0 Try.func185 rfl rfl rfl rfl (firstFree_sat hlists hllists) ?_
  rintro _ _ ⟨rfl, rfl⟩
  refine ⟨rfl, rfl, .inl rfl, ?_⟩
  refine vo_move rfl ?_
  refine vo_extract rfl rfl rfl ?_
  refine vo_extract rfl rfl rfl ?_
  refine vo_assign_pv rfl rfl ?_
  refine vo_assign_pv rfl rfl ?_
  refine vo_nil ?_
  refine hK4 _ ?_
  refine vc_block ?_
  refine vc_own_nil 4 E36 rfl ?_
  refine vc_weaken 0 rfl ?_
  refine vc_stN ?_
  refine vc_loop [0, 4, 5, 6] (fun mz vs rows => ∃ (n : Nat) (ls : List (List Int)) (ys : List Int), mz = n ∧ (tot ls ≤ n) ∧ (ls.length = lists.length) ∧ (∀ l ∈ ls, l.length < 1000000000) ∧ (ys.length + tot ls ≤ tot lists) ∧ (ys ++ (mergeF n ls).1 = (mergeM lists).1) ∧ ((mergeF n ls).2 = (mergeM lists).2) ∧ vs = [.pv false (.sl none 1 (ls.map ints)), .ref 0, i64 ((fhM ls).getD 0), bo (fhM ls).isSome] ∧ rows = [Row.own 3 1 none true ((ys).map intP)]) (tot lists) (le_len hC rfl) ⟨rfl, rfl⟩ ⟨tot lists, lists, [], rfl, Nat.le_refl _, rfl, hllists, (by simp), rfl, rfl, rfl, rfl⟩ ?_
  rintro mz vs rows - - ⟨n, ls, ys, rfl, hn, hll, hle, hys, hm1, hm2, rfl, rfl⟩
  refine vc_seq fun K5 hK5 => ?_
  refine vc_seq fun K6 hK6 => ?_
  refine vc_region ?_
  refine vo_move_pv rfl rfl ?_
  refine vo_nil ?_
  refine hK6 _ ?_
  refine vc_cond rfl (fun hc1 => ?_) (fun hc1 => ?_)
  · try simp only [decide_eq_true_eq, decide_eq_false_iff_not, beq_iff_eq, bne_iff_ne, beq_eq_false_iff_ne, bne_eq_false_iff_eq, Bool.not_eq_true, Bool.not_eq_false, Bool.not_eq_eq_eq_not, Bool.not_true, Bool.not_false, List.length_map, Int.not_lt, Int.not_le, ne_eq, Decidable.not_not] at hc1
    refine vc_skip ?_
    refine hK5 _ ?_
    refine vc_seq fun K7 hK7 => ?_
    refine vc_block ?_
    refine vc_seq fun K8 hK8 => ?_
    refine vc_region ?_
    refine vo_move_ref rfl rfl ?_
    refine vo_move_pv rfl rfl ?_
    refine vo_buildSlice E36 rfl rfl rfl rfl rfl ?_
    refine vo_append E36 rfl (by omega) rfl rfl rfl sd sd ?_
    refine vo_stN ?_
    try simp only [app_ints, app_intss, app_bools]
    refine vo_assign_ref rfl rfl ?_
    refine vo_nil ?_
    refine hK8 _ ?_
    refine vc_region ?_
    refine vo_move_pv rfl rfl ?_
    refine vo_move_pv rfl rfl ?_
    refine vo_call [] Try.func186 rfl rfl rfl rfl rfl rfl rfl (withoutHead_sat (by omega) hle) ?_
    rintro _ _ ⟨rfl, rfl⟩
    refine ⟨Nat.le_of_ble_eq_true rfl, ⟨rfl, rfl, rfl, rfl⟩, .inl rfl, ?_⟩
    refine vo_stN ?_
    refine vo_expose 2 (by omega) rfl ?_
    refine vo_stN ?_
    refine vo_weaken 24 rfl ?_
    refine vo_flag 24 rfl ?_
    refine vo_stN ?_
    refine vo_assign_pv rfl rfl ?_
    refine vo_nil ?_
    refine hK7 _ ?_
    refine vc_region ?_
    refine vo_move_pv rfl rfl ?_
    refine vo_call0 Try.func185 rfl rfl rfl rfl (firstFree_sat (by simp; omega) (mg_len hle)) ?_
    rintro _ _ ⟨rfl, rfl⟩
    refine ⟨rfl, rfl, .inl rfl, ?_⟩
    refine vo_move rfl ?_
    refine vo_extract rfl rfl rfl ?_
    refine vo_extract rfl rfl rfl ?_
    refine vo_assign_pv rfl rfl ?_
    refine vo_assign_pv rfl rfl ?_
    refine vo_nil ?_
    change again _ _ _ _ _ _
    refine again_mk rfl rfl rfl rfl ⟨_, ?_, mz - 1, ls.map (tk ((fhM ls).getD 0)), ys ++ [((fhM ls).getD 0)], rfl, ?_, ?_, ?_, ?_, ?_, ?_, rfl, rfl⟩
    · have := (mg_step hc1 hn).1; omega
    · have := (mg_step hc1 hn).1; omega
    · rw [List.length_map]; exact hll
    · exact mg_len hle
    · have := (mg_step hc1 hn).1; rw [List.length_append, List.length_singleton]; omega
    · rw [← hm1, (mg_step hc1 hn).2.1, List.append_assoc]; rfl
    · rw [← hm2, (mg_step hc1 hn).2.2]
  · try simp only [decide_eq_true_eq, decide_eq_false_iff_not, beq_iff_eq, bne_iff_ne, beq_eq_false_iff_ne, bne_eq_false_iff_eq, Bool.not_eq_true, Bool.not_eq_false, Bool.not_eq_eq_eq_not, Bool.not_true, Bool.not_false, List.length_map, Int.not_lt, Int.not_le, ne_eq, Decidable.not_not] at hc1
    refine vc_exit ?_
    refine hK3 _ ?_
    refine vc_seq fun K9 hK9 => ?_
    refine vc_region ?_
    refine vo_move_ref rfl rfl ?_
    refine vo_move_pv rfl rfl ?_
    refine vo_assign_ref rfl rfl ?_
    refine vo_assign_pv rfl rfl ?_
    refine vo_nil ?_
    refine hK9 _ ?_
    refine vc_ret ?_
    change retG _ _ _ _ _
    refine retG_one 0 hC rfl rfl rfl rfl rfl ?_
    have e := mg_none (n := mz) (Bool.eq_false_iff.1 hc1)
    rw [e] at hm1 hm2
    rw [← hm1, ← hm2, List.append_nil]; exact ⟨rfl, rfl⟩


theorem merge_sat {nl0 : Option Bool} {lists : List (List Int)} (hlists : lists.length < 1000000000) (hllists : ∀ l ∈ lists, l.length < 1000000000) (ht : tot lists < 1000000000) : SatAt Try.prog 120 [.pv false (.sl nl0 1 (lists.map ints))] [] (fun res rows => res = [.ref 0, .pv false (.sl none 1 ((mergeM lists).2.map ints))] ∧ rows = [Row.own 3 1 (some false) true (((mergeM lists).1).map intP)]) := by
  refine sat_entry_g (ts := [2, 3]) Try.func120 rfl rfl (by decide) (Nat.le_of_ble_eq_true rfl) fun C hC => ?_
  rw [Try.ntmps120]
  replace hC : C.nb = 0 := hC
  refine vc_seq fun K1 hK1 => ?_
  refine vc_region ?_
  refine vo_assign_pv rfl rfl ?_
  refine vo_assign_pv rfl rfl ?_
  refine vo_nil ?_
  refine hK1 _ ?_
  refine vc_seq fun K2 hK2 => ?_
  refine vc_region ?_
  refine vo_buildSlice E36 rfl rfl rfl rfl rfl ?_
  refine vo_assign_ref rfl rfl ?_
  refine vo_nil ?_
  refine hK2 _ ?_
  refine vc_block ?_
  refine vc_weaken 0 rfl ?_
  refine vc_stN ?_
  refine vc_loop [0, 4] (fun mz vs rows => ∃ (n : Nat) (ls : List (List Int)) (ys : List Int), mz = n ∧ (tot ls ≤ n) ∧ (ls.length = lists.length) ∧ (∀ l ∈ ls, l.length < 1000000000) ∧ (ys.length + tot ls ≤ tot lists) ∧ (ys ++ (mergeF n ls).1 = (mergeM lists).1) ∧ ((mergeF n ls).2 = (mergeM lists).2) ∧ vs = [.pv false (.sl none 1 (ls.map ints)), .ref 0] ∧ rows = [Row.own 3 1 (some false) true ((ys).map intP)]) (tot lists) (le_len hC rfl) ⟨rfl, rfl⟩ ⟨tot lists, lists, [], rfl, Nat.le_refl _, rfl, hllists, (by simp), rfl, rfl, rfl, rfl⟩ ?_
  rintro mz vs rows - - ⟨n, ls, ys, rfl, hn, hll, hle, hys, hm1, hm2, rfl, rfl⟩
  refine vc_block ?_
  refine vc_seq fun K3 hK3 => ?_
  refine vc_region ?_
  refine vo_move_pv rfl rfl ?_
  refine vo_call0 Try.func156 rfl rfl rfl rfl (firstHead_sat (by omega) hle) ?_
  rintro _ _ ⟨rfl, rfl⟩
  refine ⟨rfl, rfl, .inl rfl, ?_⟩
  refine vo_move rfl ?_
  refine vo_extract rfl rfl rfl ?_
  refine vo_extract rfl rfl rfl ?_
  refine vo_assign_pv rfl rfl ?_
  refine vo_assign_pv rfl rfl ?_
  refine vo_nil ?_
  refine hK3 _ ?_
  refine vc_seq fun K4 hK4 => ?_
  refine vc_seq fun K5 hK5 => ?_
  refine vc_region ?_
  refine vo_move_pv rfl rfl ?_
  refine vo_not rfl rfl ?_
  refine vo_nil ?_
  refine hK5 _ ?_
  refine vc_cond rfl (fun hc1 => ?_) (fun hc1 => ?_)
  · try simp only [decide_eq_true_eq, decide_eq_false_iff_not, beq_iff_eq, bne_iff_ne, beq_eq_false_iff_ne, bne_eq_false_iff_eq, Bool.not_eq_true, Bool.not_eq_false, Bool.not_eq_eq_eq_not, Bool.not_true, Bool.not_false, List.length_map, Int.not_lt, Int.not_le, ne_eq, Decidable.not_not] at hc1
    refine vc_seq fun K6 hK6 => ?_
    refine vc_region ?_
    refine vo_move_ref rfl rfl ?_
    refine vo_move_pv rfl rfl ?_
    refine vo_assign_ref rfl rfl ?_
    refine vo_assign_pv rfl rfl ?_
    refine vo_nil ?_
    refine hK6 _ ?_
    refine vc_ret ?_
    change retG _ _ _ _ _
    refine retG_one 0 hC rfl rfl rfl rfl rfl ?_
    have e := mg_none (n := mz) (Bool.eq_false_iff.1 hc1)
    rw [e] at hm1 hm2
    rw [← hm1, ← hm2, List.append_nil]; exact ⟨rfl, rfl⟩
  · try simp only [decide_eq_true_eq, decide_eq_false_iff_not, beq_iff_eq, bne_iff_ne, beq_eq_false_iff_ne, bne_eq_false_iff_eq, Bool.not_eq_true, Bool.not_eq_false, Bool.not_eq_eq_eq_not, Bool.not_true, Bool.not_false, List.length_map, Int.not_lt, Int.not_le, ne_eq, Decidable.not_not] at hc1
    refine vc_skip ?_
    refine hK4 _ ?_
    refine vc_seq fun K7 hK7 => ?_
    refine vc_region ?_
    refine vo_move_ref rfl rfl ?_
    refine vo_move_pv rfl rfl ?_
    refine vo_buildSlice E36 rfl rfl rfl rfl rfl ?_
    refine vo_append E36 rfl (by omega) rfl rfl rfl sd sd ?_
    refine vo_stN ?_
    try simp only [app_ints, app_intss, app_bools]
    refine vo_assign_ref rfl rfl ?_
    refine vo_nil ?_
    refine hK7 _ ?_
    refine vc_region ?_
    refine vo_move_pv rfl rfl ?_
    refine vo_move_pv rfl rfl ?_
    refine vo_call [] Try.func157 rfl rfl rfl rfl rfl rfl rfl (take_sat (by omega) hle) ?_
    rintro _ _ ⟨rfl, rfl⟩
    refine ⟨Nat.le_of_ble_eq_true rfl, ⟨rfl, rfl, rfl, rfl⟩, .inl rfl, ?_⟩
    refine vo_stN ?_
    refine vo_expose 2 (by omega) rfl ?_
    refine vo_stN ?_
    refine vo_weaken 23 rfl ?_
    refine vo_flag 23 rfl ?_
    refine vo_stN ?_
    refine vo_assign_pv rfl rfl ?_
    refine vo_nil ?_
    change again _ _ _ _ _ _
    refine again_mk rfl rfl rfl rfl ⟨_, ?_, mz - 1, ls.map (tk ((fhM ls).getD 0)), ys ++ [((fhM ls).getD 0)], rfl, ?_, ?_, ?_, ?_, ?_, ?_, rfl, rfl⟩
    · have := (mg_step hc1 hn).1; omega
    · have := (mg_step hc1 hn).1; omega
    · rw [List.length_map]; exact hll
    · exact mg_len hle
    · have := (mg_step hc1 hn).1; rw [List.length_append, List.length_singleton]; omega
    · rw [← hm1, (mg_step hc1 hn).2.1, List.append_assoc]; rfl
    · rw [← hm2, (mg_step hc1 hn).2.2]

end Go.Vl
