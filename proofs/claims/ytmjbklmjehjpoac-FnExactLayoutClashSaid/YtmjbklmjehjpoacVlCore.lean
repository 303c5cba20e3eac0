/- The values of a Go function's slots without memory, and what it means that a frame and a world hold them. -/
import Derived.WalkKit
import Derived.Maps.AppendAt
namespace Go.Vl
set_option linter.unusedVariables false
set_option linter.unusedSimpArgs false
open Go.RowKit

inductive PV where
  | int (k : IntKind) (n : Int)
  | bool (b : Bool)
  | str (s : ByteArray)
  | sl (nl : Option Bool) (esz : Nat) (xs : List PV)
  | agg (cs : List PV)
  deriving Inhabited

def PV.cells : PV → List PV
  | .agg cs => cs
  | p => [p]

def PV.isAgg : PV → Bool
  | .agg _ => true
  | _ => false

def PV.scal : PV → Bool
  | .int _ _ => true
  | .bool _ => true
  | .str _ => true
  | _ => false

/-- A value that fills e cells. -/
def PV.fits (e : Nat) (x : PV) : Prop := x.cells.length = e ∧ ∀ (j : Nat) (c : PV), x.cells[j]? = some c → c.isAgg = false

inductive SV where
  | pv (fr : Bool) (p : PV)
  | ref (id : Nat)
  | ptr (id : Nat) (e : Nat) (i : Nat) (o : Nat)
  | adr (fr : Bool) (cs : List PV)
  | tup (vs : List SV)
  | val (u : Value)
  | und
  | any
  deriving Inhabited

inductive Row where
  | dead
  | own (t : TypeId) (esz : Nat) (nl : Option Bool) (fr : Bool) (xs : List PV)
  | var (t : TypeId) (cs : List SV)
  | tree (t : TypeId) (esz : Nat) (nl : Option Bool) (h : Option (Nat × Option Value)) (xs : List PV)
  deriving Inhabited

def Row.live : Row → Bool
  | .dead => false
  | _ => true

structure St where
  n : Nat
  env : List (Nat × SV)
  rows : List Row

def look : List (Nat × SV) → Nat → SV
  | [], _ => .any
  | (k, v) :: e, t => bif Nat.beq t k then v else look e t

theorem look_cons (k : Nat) (v : SV) (e : List (Nat × SV)) (t : Nat) : look ((k, v) :: e) t = if t = k then v else look e t := by
  show (bif Nat.beq t k then v else look e t) = _
  by_cases h : t = k
  · subst h; simp [Nat.beq_refl]
  · rw [if_neg h]
    have : Nat.beq t k = false := by
      cases hb : Nat.beq t k with
      | false => rfl
      | true => exact (h (Nat.eq_of_beq_eq_true hb)).elim
    rw [this]
    rfl

inductive RP (w : World) (G : Nat → Prop) : PV → Value → Prop where
  | int (k : IntKind) (n : Int) : RP w G (.int k n) (.int k n)
  | bool (b : Bool) : RP w G (.bool b) (.bool b)
  | str (s : ByteArray) : RP w G (.str s) (.string s)
  | nilsl (nl : Option Bool) (e : Nat) (h : nl ≠ some false) : RP w G (.sl nl e []) (.slice none 0 0)
  | sl (nl : Option Bool) (e : Nat) (xs : List PV) (a : Addr) (len cap : Nat) (f : Nat → Nat → Value) (h : nl ≠ some true) (hs : xs ≠ [] → a.spot = none)
      (hl : len = xs.length) (hcap : len ≤ cap) (hg : xs ≠ [] → G a.block)
      (hw : ∀ (i : Nat) (x : PV), xs[i]? = some x → x.fits e)
      (hc : ∀ (i : Nat) (x : PV) (j : Nat) (c : PV), xs[i]? = some x → x.cells[j]? = some c → w.cell? ⟨a.block, a.off + i * e + j, none⟩ = some (f i j))
      (hr : ∀ (i : Nat) (x : PV) (j : Nat) (c : PV), xs[i]? = some x → x.cells[j]? = some c → RP w G c (f i j)) :
      RP w G (.sl nl e xs) (.slice (some a) len cap)
  | agg (cs : List PV) (vs : Array Value) (hl : vs.size = cs.length) (h1 : ∀ (j : Nat) (c : PV), cs[j]? = some c → c.isAgg = false)
      (h : ∀ (j : Nat) (c : PV) (v : Value), cs[j]? = some c → vs[j]? = some v → RP w G c v) : RP w G (.agg cs) (.agg vs)

theorem RP.mono {w w' : World} {G G' : Nat → Prop} (hG : ∀ b, G b → G' b ∧ w'.heap[b]? = w.heap[b]?) {p : PV} {v : Value} (h : RP w G p v) : RP w' G' p v := by
  induction h with
  | int k n => exact .int k n
  | bool b => exact .bool b
  | str s => exact .str s
  | nilsl nl e h => exact .nilsl nl e h
  | sl nl e xs a len cap f h hs hl hcap hg hw hc hr ih =>
    refine .sl nl e xs a len cap f h hs hl hcap (fun hne => (hG _ (hg hne)).1) hw (fun i x j c hx hcj => ?_) ih
    have hne : xs ≠ [] := by intro h0; subst h0; simp at hx
    have := (hG _ (hg hne)).2
    rw [← hc i x j c hx hcj]
    simp [World.cell?, this]
  | agg cs vs hl h1 h ih => exact .agg cs vs hl h1 ih

theorem RP.oneCell {w : World} {G : Nat → Prop} {p : PV} {v : Value} (h : RP w G p v) (hp : p.isAgg = false) : v.oneCell' = true := by
  cases h <;> simp_all [PV.isAgg, Value.oneCell']

theorem RP.scal_any {w w' : World} {G G' : Nat → Prop} {p : PV} {v : Value} (h : RP w G p v) (hs : p.scal = true) : RP w' G' p v := by
  cases h <;> simp_all [PV.scal] <;> constructor

/-- The block of a slice's or a pointer's value. -/
def blk : Value → Option Nat
  | .slice (some a) _ _ => some a.block
  | .pointer (some a) => some a.block
  | _ => none

/-- A row's value, and the blocks that it alone may write. -/
structure MV where
  v : Value
  S : Nat → Prop

def MV.of (v : Value) : MV := ⟨v, fun b => blk v = some b⟩
instance : Inhabited MV := ⟨⟨undef, fun _ => False⟩⟩

/-- A value whose slices all lie in blocks of its own. -/
inductive TP (w : World) : PV → Value → (Nat → Prop) → Prop where
  | scal (p : PV) (v : Value) (S : Nat → Prop) (hs : p.scal = true) (h : RP w (fun _ => False) p v) (hS : ∀ b, ¬ S b) : TP w p v S
  | sl (t : TypeId) (e : Nat) (nl : Option Bool) (xs : List PV) (v : Value) (vals : List Value) (Sf : Nat → Nat → Prop) (S : Nat → Prop)
      (hown : w.ownsRow 0 t e v xs.length vals) (h1 : nl = some true → v = .slice none 0 0) (h2 : nl = some false → v ≠ .slice none 0 0)
      (hw : ∀ (i : Nat) (x : PV), xs[i]? = some x → x.fits e)
      (hr : ∀ (i : Nat) (x : PV) (j : Nat) (c : PV) (u : Value), xs[i]? = some x → x.cells[j]? = some c → vals[i * e + j]? = some u → TP w c u (Sf (i * e + j)))
      (hd : ∀ q q' b, Sf q b → Sf q' b → q = q') (hn : ∀ q b, Sf q b → blk v ≠ some b) (hz : ∀ q b, xs.length * e ≤ q → ¬ Sf q b)
      (hS : ∀ b, S b ↔ blk v = some b ∨ ∃ q, Sf q b) : TP w (.sl nl e xs) v S

/-- What a cell of a row holds whose slices are its own; one of them may have been taken out. -/
def CellOK (w : World) (h : Option (Nat × Option Value)) (q : Nat) (c : PV) (u : Value) (S : Nat → Prop) : Prop :=
  TP w c u S ∨ (h = some (q, none) ∧ (∀ b, ¬ S b) ∧ u.oneCell' = true)

theorem ownsRow_div {w : World} {t e : Nat} {v : Value} {n : Nat} {vals : List Value} (h : w.ownsRow 0 t e v n vals) {q : Nat} (hq : q < n * e) : q / e < n ∧ q % e < e ∧ q / e * e + q % e = q := by
  have he : 0 < e := by rcases Nat.eq_zero_or_pos e with h | h; subst h; simp at hq; exact h
  exact ⟨Nat.div_lt_of_lt_mul (by rw [Nat.mul_comm]; exact hq), Nat.mod_lt _ he, by rw [Nat.mul_comm]; exact Nat.div_add_mod q e⟩

theorem ownsRow_blk {w w' : World} {t e : Nat} {v : Value} {n : Nat} {vals : List Value} (h : w.ownsRow 0 t e v n vals) (hb : ∀ b, blk v = some b → w'.heap[b]? = w.heap[b]?) : w'.ownsRow 0 t e v n vals := by
  refine ⟨h.1, ?_⟩
  rcases h.2 with h | ⟨g, cap, cur, rfl, h0, hh, rest⟩
  · exact .inl h
  · exact .inr ⟨g, cap, cur, rfl, h0, by rw [hb g rfl]; exact hh, rest⟩

theorem ownsRow_lt {w : World} {t e : Nat} {v : Value} {n : Nat} {vals : List Value} (h : w.ownsRow 0 t e v n vals) {b : Nat} (hb : blk v = some b) : b < w.heap.size := by
  rcases h.2 with ⟨rfl, _⟩ | ⟨g, cap, cur, rfl, _, hg, _⟩
  · simp [blk] at hb
  · simp [blk] at hb
    subst hb
    exact (Array.getElem?_eq_some_iff.1 hg).1

theorem TP.mono {w w' : World} {p : PV} {v : Value} {S : Nat → Prop} (h : TP w p v S) (hb : ∀ b, S b → w'.heap[b]? = w.heap[b]?) : TP w' p v S := by
  induction h with
  | scal p v S hs h hS => exact .scal p v S hs (h.scal_any hs) hS
  | sl t e nl xs v vals Sf S hown h1 h2 hw hr hd hn hz hS ih =>
    exact .sl t e nl xs v vals Sf S (ownsRow_blk hown fun b h => hb b ((hS b).2 (.inl h))) h1 h2 hw
      (fun i x j c u hx hc hu => ih i x j c u hx hc hu fun b h => hb b ((hS b).2 (.inr ⟨_, h⟩))) hd hn hz hS

/-- The cell at a place. -/
theorem cellAt {w : World} {t e : Nat} {v : Value} {xs : List PV} {vals : List Value} (hown : w.ownsRow 0 t e v xs.length vals) (hw : ∀ (i : Nat) (x : PV), xs[i]? = some x → x.fits e) {q : Nat} (hq : q < xs.length * e) :
    ∃ x c u, xs[q / e]? = some x ∧ x.cells[q % e]? = some c ∧ vals[q / e * e + q % e]? = some u ∧ q / e * e + q % e = q := by
  obtain ⟨h1, h2, h3⟩ := ownsRow_div hown hq
  have hx : xs[q / e]? = some xs[q / e] := List.getElem?_eq_getElem h1
  have hl := (hw _ _ hx).1
  have hv : q / e * e + q % e < vals.length := by rw [h3, hown.1]; exact hq
  exact ⟨_, _, _, hx, List.getElem?_eq_getElem (by rw [hl]; exact h2), List.getElem?_eq_getElem hv, h3⟩

theorem TP.lt {w : World} {p : PV} {v : Value} {S : Nat → Prop} (h : TP w p v S) : ∀ b, S b → b < w.heap.size := by
  induction h with
  | scal p v S hs h hS => exact fun b hb => (hS b hb).elim
  | sl t e nl xs v vals Sf S hown h1 h2 hw hr hd hn hz hS ih =>
    intro b hb
    rcases (hS b).1 hb with h | ⟨q, h⟩
    · exact ownsRow_lt hown h
    · rcases Nat.lt_or_ge q (xs.length * e) with hq | hq
      · obtain ⟨x, c, u, hx, hc, hu, e1⟩ := cellAt hown hw hq
        exact ih _ x _ c u hx hc hu b (by rw [e1]; exact h)
      · exact (hz q b hq h).elim

theorem TP.oneCell {w : World} {p : PV} {v : Value} {S : Nat → Prop} (h : TP w p v S) : v.oneCell' = true := by
  cases h with
  | scal p v S hs h hS => exact h.oneCell (by cases h <;> simp_all [PV.scal, PV.isAgg])
  | sl t e nl xs v vals Sf S hown => rcases hown.2 with ⟨rfl, _⟩ | ⟨g, cap, cur, rfl, _⟩ <;> rfl

/-- It can be read where all of its blocks can. -/
theorem TP.rp {w : World} {p : PV} {v : Value} {S : Nat → Prop} (h : TP w p v S) {G : Nat → Prop} (hG : ∀ b, S b → G b) : RP w G p v := by
  induction h with
  | scal p v S hs h hS => exact h.scal_any hs
  | sl t e nl xs v vals Sf S hown h1 h2 hw hr hd hn hz hS ih =>
    rcases hown.2 with ⟨rfl, hn0⟩ | ⟨g, cap, cur, rfl, h0, hh, hle, hmx, hsz, htk⟩
    · have : xs = [] := List.eq_nil_of_length_eq_zero hn0
      subst this
      exact .nilsl nl e (fun e => h2 e rfl)
    · have key : ∀ (i : Nat) (x : PV) (j : Nat) (c : PV), xs[i]? = some x → x.cells[j]? = some c → ∃ u, vals[i * e + j]? = some u := by
        intro i x j c hx hc
        have hi := (List.getElem?_eq_some_iff.1 hx).1
        have hj : j < e := by rw [← (hw i x hx).1]; exact (List.getElem?_eq_some_iff.1 hc).1
        have : i * e + j < vals.length := by
          rw [hown.1]
          have := Nat.mul_le_mul_right e (show i + 1 ≤ xs.length by omega)
          rw [Nat.add_mul] at this
          omega
        exact ⟨_, List.getElem?_eq_getElem this⟩
      refine .sl nl e xs ⟨g, 0, none⟩ xs.length cap (fun i j => (vals[i * e + j]?).getD undef) (fun e => by have := h1 e; simp at this) (fun _ => rfl) rfl hle (fun _ => hG g ((hS g).2 (.inl rfl))) hw (fun i x j c hx hc => ?_) (fun i x j c hx hc => ?_)
      · obtain ⟨u, hu⟩ := key i x j c hx hc
        simp only [hu, Option.getD_some]
        rw [cell_of_row w g _ cur t (0, 0) hh]
        rw [← htk, List.getElem?_take] at hu
        split at hu
        · simpa using hu
        · cases hu
      · obtain ⟨u, hu⟩ := key i x j c hx hc
        simp only [hu, Option.getD_some]
        exact ih i x j c u hx hc hu fun b hb => hG b ((hS b).2 (.inr ⟨_, hb⟩))

theorem CellOK.mono {w w' : World} {h : Option (Nat × Option Value)} {q : Nat} {c : PV} {u : Value} {S : Nat → Prop} (hc : CellOK w h q c u S) (hb : ∀ b, S b → w'.heap[b]? = w.heap[b]?) : CellOK w' h q c u S := by
  rcases hc with hc | h
  · exact .inl (hc.mono hb)
  · exact .inr h

theorem CellOK.tp {w : World} {q : Nat} {c : PV} {u : Value} {S : Nat → Prop} (hc : CellOK w none q c u S) : TP w c u S := by
  rcases hc with hc | ⟨h3, _⟩
  · exact hc
  · cases h3

theorem CellOK.tpK {w : World} {q q' : Nat} {v : Value} {c : PV} {u : Value} {S : Nat → Prop} (hc : CellOK w (some (q', some v)) q c u S) : TP w c u S := by
  rcases hc with hc | ⟨h3, _⟩
  · exact hc
  · cases h3

theorem CellOK.oneCell {w : World} {h : Option (Nat × Option Value)} {q : Nat} {c : PV} {u : Value} {S : Nat → Prop} (hc : CellOK w h q c u S) : u.oneCell' = true := by
  rcases hc with hc | h
  · exact hc.oneCell
  · exact h.2.2

theorem CellOK.lt {w : World} {h : Option (Nat × Option Value)} {q : Nat} {c : PV} {u : Value} {S : Nat → Prop} (hc : CellOK w h q c u S) : ∀ b, S b → b < w.heap.size := by
  rcases hc with hc | h
  · exact hc.lt
  · exact fun b hb => (h.2.1 b hb).elim

inductive RS (w : World) (G : Bool → Nat → Prop) (m : Nat → MV) (N : Nat) : SV → Value → Prop where
  | any (v : Value) : RS w G m N .any v
  | val (u : Value) : RS w G m N (.val u) u
  | und : RS w G m N .und undef
  | pv (fr : Bool) (p : PV) (v : Value) (h : RP w (G fr) p v) : RS w G m N (.pv fr p) v
  | ref (id : Nat) (h : id < N) : RS w G m N (.ref id) (m id).v
  | ptr (id e i o b : Nat) (hid : id < N) (h : blk (m id).v = some b) : RS w G m N (.ptr id e i o) (.pointer (some ⟨b, i * e + o, none⟩))
  | adr (fr : Bool) (cs : List PV) (a : Addr) (f : Nat → Value) (hs : a.spot = none) (hg : cs ≠ [] → G fr a.block)
      (h1 : ∀ (j : Nat) (c : PV), cs[j]? = some c → c.isAgg = false)
      (hc : ∀ (j : Nat) (c : PV), cs[j]? = some c → w.cell? ⟨a.block, a.off + j, none⟩ = some (f j))
      (hr : ∀ (j : Nat) (c : PV), cs[j]? = some c → RP w (G fr) c (f j)) : RS w G m N (.adr fr cs) (.pointer (some a))
  | tup (vs : List SV) (us : Array Value) (hl : us.size = vs.length)
      (h : ∀ (j : Nat) (c : SV) (v : Value), vs[j]? = some c → us[j]? = some v → RS w G m N c v) : RS w G m N (.tup vs) (.tuple us)

/-- Does the slot's value name the row (a tuple: perhaps)? -/
def SV.names (id : Nat) : SV → Prop
  | .ref i => i = id
  | .ptr i _ _ _ => i = id
  | .tup _ => True
  | _ => False

theorem RS.mono {w w' : World} {G G' : Bool → Nat → Prop} {m m' : Nat → MV} {N N' : Nat} (hG : ∀ fr b, G fr b → G' fr b ∧ w'.heap[b]? = w.heap[b]?)
    (hN : N ≤ N') (hm : ∀ id, id < N → m' id = m id) {s : SV} {v : Value} (h : RS w G m N s v) : RS w' G' m' N' s v := by
  induction h with
  | any v => exact .any v
  | val u => exact .val _
  | und => exact .und
  | pv fr p v h => exact .pv fr p v (h.mono (hG fr))
  | ref id h => rw [← hm id h]; exact .ref id (by omega)
  | ptr id e i o b hid h => exact .ptr id e i o b (by omega) (by rw [hm id hid]; exact h)
  | adr fr cs a f hs hg h1 hc hr =>
    refine .adr fr cs a f hs (fun hne => (hG fr _ (hg hne)).1) h1 (fun j c hj => ?_) (fun j c hj => (hr j c hj).mono (hG fr))
    have hne : cs ≠ [] := by intro h0; subst h0; simp at hj
    have := (hG fr _ (hg hne)).2
    rw [← hc j c hj]
    simp [World.cell?, this]
  | tup vs us hl h ih => exact .tup vs us hl ih

/-- Where a row changed its place: slots that do not name it read as before. -/
theorem RS.mono' {w w' : World} {G G' : Bool → Nat → Prop} {m m' : Nat → MV} {N id : Nat} (hG : ∀ fr b, G fr b → G' fr b ∧ w'.heap[b]? = w.heap[b]?)
    (hm : ∀ i, i ≠ id → m' i = m i) {s : SV} {v : Value} (h : RS w G m N s v) (hs : ¬ s.names id) : RS w' G' m' N s v := by
  cases h with
  | any v => exact .any v
  | val u => exact .val _
  | und => exact .und
  | pv fr p v h => exact .pv fr p v (h.mono (hG fr))
  | ref i hi => rw [← hm i (fun e => hs e)]; exact .ref i hi
  | ptr i e k o b hi h => exact .ptr i e k o b hi (by rw [hm i (fun e => hs e)]; exact h)
  | adr fr cs a f hsp hg h1 hc hr =>
    refine .adr fr cs a f hsp (fun hne => (hG fr _ (hg hne)).1) h1 (fun j c hj => ?_) (fun j c hj => (hr j c hj).mono (hG fr))
    have hne : cs ≠ [] := by intro h0; subst h0; simp at hj
    have := (hG fr _ (hg hne)).2
    rw [← hc j c hj]
    simp [World.cell?, this]
  | tup vs us hl h => exact (hs trivial).elim

/-- What a row of the call's own holds. -/
inductive RowOK (w : World) (G : Bool → Nat → Prop) (m : Nat → MV) (N : Nat) : MV → Row → Prop where
  | dead (v : MV) : RowOK w G m N v .dead
  | own (v : Value) (t : TypeId) (e : Nat) (nl : Option Bool) (fr : Bool) (xs : List PV) (vs : List Value) (hown : w.ownsRow 0 t e v xs.length vs)
      (h1 : nl = some true → v = .slice none 0 0) (h2 : nl = some false → v ≠ .slice none 0 0)
      (hw : ∀ (i : Nat) (x : PV), xs[i]? = some x → x.fits e)
      (hr : ∀ (i : Nat) (x : PV) (j : Nat) (c : PV), xs[i]? = some x → x.cells[j]? = some c → ∃ u, vs[i * e + j]? = some u ∧ RP w (G fr) c u) :
      RowOK w G m N (.of v) (.own t e nl fr xs)
  | var (b : Nat) (t : TypeId) (cs : List SV) (cur : Array Value) (hb : w.heap[b]? = some (.cells cur t (0, 0))) (hl : cur.size = cs.length)
      (hr : ∀ (j : Nat) (c : SV) (u : Value), cs[j]? = some c → cur[j]? = some u → RS w G m N c u) (h1 : ∀ (j : Nat) (u : Value), cur[j]? = some u → u.oneCell' = true) :
      RowOK w G m N (.of (.pointer (some ⟨b, 0, none⟩))) (.var t cs)
  | tree (mv : MV) (t : TypeId) (e : Nat) (nl : Option Bool) (h : Option (Nat × Option Value)) (xs : List PV) (vals : List Value) (Sf : Nat → Nat → Prop)
      (hown : w.ownsRow 0 t e mv.v xs.length vals) (h1 : nl = some true → mv.v = .slice none 0 0) (h2 : nl = some false → mv.v ≠ .slice none 0 0)
      (hw : ∀ (i : Nat) (x : PV), xs[i]? = some x → x.fits e)
      (hr : ∀ (i : Nat) (x : PV) (j : Nat) (c : PV) (u : Value), xs[i]? = some x → x.cells[j]? = some c → vals[i * e + j]? = some u → CellOK w h (i * e + j) c u (Sf (i * e + j)))
      (hd : ∀ q q' b, Sf q b → Sf q' b → q = q') (hn : ∀ q b, Sf q b → blk mv.v ≠ some b) (hz : ∀ q b, xs.length * e ≤ q → ¬ Sf q b)
      (hS : ∀ b, mv.S b ↔ blk mv.v = some b ∨ ∃ q, Sf q b) (hkn : ∀ q u, h = some (q, some u) → vals[q]? = some u) : RowOK w G m N mv (.tree t e nl h xs)

def liveAt (rows : List Row) (id : Nat) : Prop := ∃ r, rows[id]? = some r ∧ r.live = true

/-- The setting of a call: the world at its start, the blocks that its arguments may be read in, the rows that it may write. -/
structure Ctx where
  w0 : World
  A : Nat → Prop
  nb : Nat
  bv : Nat → MV

def priv (rows : List Row) (m : Nat → MV) (b : Nat) : Prop := ∃ id, liveAt rows id ∧ (m id).S b

/-- The blocks in which values may be read that nobody writes any more. -/
def Gd (C : Ctx) (rows : List Row) (m : Nat → MV) (w : World) (fr : Bool) (b : Nat) : Prop :=
  b < w.heap.size ∧ ¬ priv rows m b ∧ (fr = false → C.A b ∨ C.w0.heap.size ≤ b) ∧
    (fr = true → C.w0.heap.size ≤ b ∧ ∃ cur e, w.heap[b]? = some (.cells cur e (0, 0)))

structure SimM (C : Ctx) (s : St) (m : Nat → MV) (a : Act) (w : World) : Prop where
  defs : a.defers = []
  size : a.tmps.size = s.n
  os : w.os = C.w0.os
  tape : w.tape = C.w0.tape
  output : w.output = C.w0.output
  hsz : C.w0.heap.size ≤ w.heap.size
  old : ∀ k, k < C.w0.heap.size → (∀ id, id < C.nb → ¬ (C.bv id).S k) → w.heap[k]? = C.w0.heap[k]?
  bor : ∀ id, id < C.nb → m id = C.bv id
  nbl : C.nb ≤ s.rows.length
  newb : ∀ id b, C.nb ≤ id → liveAt s.rows id → (m id).S b → C.w0.heap.size ≤ b
  dist : ∀ i j b, liveAt s.rows i → liveAt s.rows j → (m i).S b → (m j).S b → i = j
  rows : ∀ id r, s.rows[id]? = some r → RowOK w (Gd C s.rows m w) m s.rows.length (m id) r
  env : ∀ t, RS w (Gd C s.rows m w) m s.rows.length (look s.env t) (a.tmps.getD t undef)

def Sim (C : Ctx) (s : St) (a : Act) (w : World) : Prop := ∃ m, SimM C s m a w

def St.put (s : St) (t : Nat) (v : SV) : St := { s with env := (t, v) :: s.env }

theorem look_put (e : List (Nat × SV)) (t u : Nat) (v : SV) : look ((t, v) :: e) u = if u = t then v else look e u := look_cons t v e u

/-- A slot is written. -/
theorem SimM.put {C : Ctx} {s : St} {m : Nat → MV} {a : Act} {w : World} (h : SimM C s m a w) {t : Nat} (ht : t < s.n) {sv : SV} {v : Value}
    (hv : RS w (Gd C s.rows m w) m s.rows.length sv v) : SimM C (s.put t sv) m (a.put (some t) v) w where
  defs := h.defs
  size := by simp [Act.put, h.size, St.put]
  os := h.os
  tape := h.tape
  output := h.output
  hsz := h.hsz
  old := h.old
  bor := h.bor
  nbl := h.nbl
  newb := h.newb
  dist := h.dist
  rows := h.rows
  env := by
    intro u
    simp only [St.put, look_put, Act.put]
    split
    · rename_i e
      subst e
      have : (a.tmps.setIfInBounds u v).getD u undef = v := by
        have hu : u < a.tmps.size := by rw [h.size]; exact ht
        simp [Array.getD, hu]
      rw [this]
      exact hv
    · rename_i e
      have : (a.tmps.setIfInBounds t v).getD u undef = a.tmps.getD u undef := by
        simp only [Array.getD, Array.size_setIfInBounds]
        split
        · rename_i hu
          simp [hu, Ne.symm e]
        · rfl
      rw [this]
      exact h.env u

/-- What the blocks of values that nobody writes any more keep behind a step. -/
theorem Gd.step {C : Ctx} {rows rows' : List Row} {m m' : Nat → MV} {w w' : World} (T : Nat → Prop) (hsz : w.heap.size ≤ w'.heap.size)
    (hold : ∀ k, k < w.heap.size → ¬ T k → w'.heap[k]? = w.heap[k]?) (hT : ∀ k, T k → priv rows m k) (hP : ∀ b, b < w.heap.size → priv rows' m' b → priv rows m b) :
    ∀ fr b, Gd C rows m w fr b → Gd C rows' m' w' fr b ∧ w'.heap[b]? = w.heap[b]? := by
  intro fr b ⟨h1, h2, h3, h4⟩
  have e := hold b h1 (fun ht => h2 (hT b ht))
  refine ⟨⟨by omega, fun hp => h2 (hP b h1 hp), h3, fun hf => ?_⟩, e⟩
  rw [e]
  exact h4 hf

theorem RowOK.mono {w w' : World} {G G' : Bool → Nat → Prop} {m m' : Nat → MV} {N N' : Nat} {v : MV} {r : Row} (hG : ∀ fr b, G fr b → G' fr b ∧ w'.heap[b]? = w.heap[b]?)
    (hN : N ≤ N') (hm : ∀ id, id < N → m' id = m id) (h : RowOK w G m N v r) (hb : r.live = true → ∀ b, v.S b → w'.heap[b]? = w.heap[b]?) : RowOK w' G' m' N' v r := by
  cases h with
  | dead v => exact .dead v
  | own v t e nl fr xs vs hown h1 h2 hw hr =>
    refine .own v t e nl fr xs vs ?_ h1 h2 hw (fun i x j c hx hc => ?_)
    · refine ⟨hown.1, ?_⟩
      rcases hown.2 with h | ⟨g, cap, cur, rfl, h0, hh, rest⟩
      · exact .inl h
      · exact .inr ⟨g, cap, cur, rfl, h0, by rw [hb rfl g rfl]; exact hh, rest⟩
    · obtain ⟨u, hu, hp⟩ := hr i x j c hx hc
      exact ⟨u, hu, hp.mono (hG fr)⟩
  | var b t cs cur hbk hl hr h1 =>
    exact .var b t cs cur (by rw [hb rfl b rfl]; exact hbk) hl (fun j c u hc hu => (hr j c u hc hu).mono hG hN hm) h1
  | tree mv t e nl h xs vals Sf hown h1 h2 hw hr hd hn hz hS hkn =>
    exact .tree _ t e nl h xs vals Sf (ownsRow_blk hown fun b h => hb rfl b ((hS b).2 (.inl h))) h1 h2 hw
      (fun i x j c u hx hc hu => (hr i x j c u hx hc hu).mono fun b h => hb rfl b ((hS b).2 (.inr ⟨_, h⟩))) hd hn hz hS hkn

/-- A live row's block lies in the heap. -/
theorem SimM.lt {C : Ctx} {s : St} {m : Nat → MV} {a : Act} {w : World} (h : SimM C s m a w) {id b : Nat} (hl : liveAt s.rows id) (hb : (m id).S b) : b < w.heap.size := by
  obtain ⟨r, hr, hv⟩ := hl
  have := h.rows id r hr
  generalize hmv : m id = v at *
  cases this with
  | dead v => simp [Row.live] at hv
  | own v t e nl fr xs vs hown =>
    change blk v = some b at hb
    rcases hown.2 with ⟨rfl, _⟩ | ⟨g, cap, cur, rfl, _, hg, _⟩
    · simp [blk] at hb
    · simp [blk] at hb
      subst hb
      exact (Array.getElem?_eq_some_iff.1 hg).1
  | var b' t cs cur hbk =>
    change blk (.pointer (some ⟨b', 0, none⟩)) = some b at hb
    simp [blk] at hb
    subst hb
    exact (Array.getElem?_eq_some_iff.1 hbk).1
  | tree mv t e nl h xs vals Sf hown h1 h2 hw hrr hd hn hz hS hkn =>
    rcases (hS b).1 hb with h | ⟨q, h⟩
    · exact ownsRow_lt hown h
    · rcases Nat.lt_or_ge q (xs.length * e) with hq | hq
      · obtain ⟨x, c, u, hx, hc, hu, e1⟩ := cellAt hown hw hq
        exact (hrr _ x _ c u hx hc hu).lt b (by rw [e1]; exact h)
      · exact (hz q b hq h).elim

def updM (m : Nat → MV) (id : Nat) (v : MV) : Nat → MV := fun i => if i = id then v else m i

theorem MV.of_S {v : Value} {b : Nat} : (MV.of v).S b ↔ blk v = some b := Iff.rfl
theorem updM_same (m : Nat → MV) (id : Nat) (v : MV) : updM m id v id = v := by simp [updM]
theorem updM_ne (m : Nat → MV) {id i : Nat} (v : MV) (h : i ≠ id) : updM m id v i = m i := by simp [updM, h]

def SV.kill (id : Nat) : SV → SV
  | .ref i => if i = id then .any else .ref i
  | .ptr i e k o => if i = id then .any else .ptr i e k o
  | .tup _ => .any
  | s => s

def Row.kill (id : Nat) : Row → Row
  | .var t cs => .var t (cs.map (SV.kill id))
  | r => r

def killE (id : Nat) (e : List (Nat × SV)) : List (Nat × SV) := e.map fun p => (p.1, p.2.kill id)

theorem look_killE (id : Nat) (e : List (Nat × SV)) (t : Nat) : look (killE id e) t = (look e t).kill id := by
  induction e with
  | nil => rfl
  | cons p e ih =>
    obtain ⟨k, v⟩ := p
    show look ((k, v.kill id) :: killE id e) t = _
    rw [look_cons, look_cons]
    split
    · rfl
    · exact ih

theorem SV.not_names_kill (id : Nat) (s : SV) : ¬ (s.kill id).names id := by
  cases s with
  | ref i => by_cases h : i = id <;> simp [SV.kill, SV.names, h]
  | ptr i e k o => by_cases h : i = id <;> simp [SV.kill, SV.names, h]
  | _ => simp [SV.kill, SV.names]

theorem RS.kill {w w' : World} {G G' : Bool → Nat → Prop} {m m' : Nat → MV} {N id : Nat} (hG : ∀ fr b, G fr b → G' fr b ∧ w'.heap[b]? = w.heap[b]?)
    (hm : ∀ i, i ≠ id → m' i = m i) {s : SV} {v : Value} (h : RS w G m N s v) : RS w' G' m' N (s.kill id) v := by
  by_cases hs : s.names id
  · have : s.kill id = .any := by
      cases s <;> simp_all [SV.kill, SV.names]
    rw [this]
    exact .any v
  · have : s.kill id = s := by
      cases s <;> simp_all [SV.kill, SV.names]
    rw [this]
    exact h.mono' hG hm hs

theorem Row.live_kill (id : Nat) (r : Row) : (r.kill id).live = r.live := by cases r <;> rfl

theorem RowOK.kill {w w' : World} {G G' : Bool → Nat → Prop} {m m' : Nat → MV} {N id : Nat} {v : MV} {r : Row} (hG : ∀ fr b, G fr b → G' fr b ∧ w'.heap[b]? = w.heap[b]?)
    (hm : ∀ i, i ≠ id → m' i = m i) (h : RowOK w G m N v r) (hb : r.live = true → ∀ b, v.S b → w'.heap[b]? = w.heap[b]?) : RowOK w' G' m' N v (r.kill id) := by
  cases h with
  | dead v => exact .dead v
  | own v t e nl fr xs vs hown h1 h2 hw hr =>
    refine .own v t e nl fr xs vs ?_ h1 h2 hw (fun i x j c hx hc => ?_)
    · refine ⟨hown.1, ?_⟩
      rcases hown.2 with h | ⟨g, cap, cur, rfl, h0, hh, rest⟩
      · exact .inl h
      · exact .inr ⟨g, cap, cur, rfl, h0, by rw [hb rfl g rfl]; exact hh, rest⟩
    · obtain ⟨u, hu, hp⟩ := hr i x j c hx hc
      exact ⟨u, hu, hp.mono (hG fr)⟩
  | var b t cs cur hbk hl hr h1 =>
    refine .var b t _ cur (by rw [hb rfl b rfl]; exact hbk) (by simpa using hl) (fun j c u hc hu => ?_) h1
    simp only [List.getElem?_map, Option.map_eq_some_iff] at hc
    obtain ⟨c', hc', rfl⟩ := hc
    exact (hr j c' u hc' hu).kill hG hm
  | tree mv t e nl h xs vals Sf hown h1 h2 hw hr hd hn hz hS hkn =>
    exact .tree _ t e nl h xs vals Sf (ownsRow_blk hown fun b h => hb rfl b ((hS b).2 (.inl h))) h1 h2 hw
      (fun i x j c u hx hc hu => (hr i x j c u hx hc hu).mono fun b h => hb rfl b ((hS b).2 (.inr ⟨_, h⟩))) hd hn hz hS hkn

/-- A new row. -/
theorem SimM.addRow {C : Ctx} {s : St} {m : Nat → MV} {a : Act} {w w' : World} (h : SimM C s m a w) (hg : w.grownBy w' none) (r : Row) (v : MV)
    (hb : ∀ b, v.S b → w.heap.size ≤ b)
    (hr : (∀ fr b, Gd C s.rows m w fr b → Gd C (s.rows ++ [r]) (updM m s.rows.length v) w' fr b ∧ w'.heap[b]? = w.heap[b]?) →
      RowOK w' (Gd C (s.rows ++ [r]) (updM m s.rows.length v) w') (updM m s.rows.length v) (s.rows.length + 1) v r) :
    SimM C { s with rows := s.rows ++ [r] } (updM m s.rows.length v) a w' ∧
      (∀ fr b, Gd C s.rows m w fr b → Gd C (s.rows ++ [r]) (updM m s.rows.length v) w' fr b ∧ w'.heap[b]? = w.heap[b]?) := by
  have hlive : ∀ id, liveAt (s.rows ++ [r]) id → id = s.rows.length ∨ (id < s.rows.length ∧ liveAt s.rows id) := by
    intro id ⟨q, hq, hv⟩
    rw [List.getElem?_append] at hq
    split at hq
    · rename_i hlt; exact .inr ⟨hlt, q, hq, hv⟩
    · rename_i hge
      rcases Nat.lt_or_ge (id - s.rows.length) 1 with h1 | h1
      · exact .inl (by omega)
      · rw [List.getElem?_eq_none (by simpa using h1)] at hq; cases hq
  have hG : ∀ fr b, Gd C s.rows m w fr b → Gd C (s.rows ++ [r]) (updM m s.rows.length v) w' fr b ∧ w'.heap[b]? = w.heap[b]? := by
    refine Gd.step (fun _ => False) hg.size (fun k hk _ => hg.block k hk (by simp)) (fun _ hf => hf.elim) (fun b hlt ⟨id, hl, hbk⟩ => ?_)
    rcases hlive id hl with rfl | ⟨hid, hl'⟩
    · rw [updM_same] at hbk; have := hb b hbk; omega
    · rw [updM_ne _ _ (by omega)] at hbk; exact ⟨id, hl', hbk⟩
  refine ⟨?_, hG⟩
  exact {
    defs := h.defs
    size := h.size
    os := hg.os.trans h.os
    tape := hg.tape.trans h.tape
    output := hg.output.trans h.output
    hsz := Nat.le_trans h.hsz hg.size
    old := fun k hk hn => (hg.block k (by have := h.hsz; omega) (by simp)).trans (h.old k hk hn)
    bor := fun id hid => by rw [updM_ne _ _ (by have := h.nbl; omega)]; exact h.bor id hid
    nbl := by have := h.nbl; simp; omega
    newb := fun id b hid hl hbk => by
      rcases hlive id hl with rfl | ⟨hlt, hl'⟩
      · rw [updM_same] at hbk; have := hb b hbk; have := h.hsz; omega
      · rw [updM_ne _ _ (by omega)] at hbk; exact h.newb id b hid hl' hbk
    dist := fun i j b hi hj hbi hbj => by
      rcases hlive i hi with rfl | ⟨hi1, hi2⟩ <;> rcases hlive j hj with rfl | ⟨hj1, hj2⟩
      · rfl
      · rw [updM_same] at hbi; rw [updM_ne _ _ (by omega)] at hbj
        have := hb b hbi; have := h.lt hj2 hbj; omega
      · rw [updM_same] at hbj; rw [updM_ne _ _ (by omega)] at hbi
        have := hb b hbj; have := h.lt hi2 hbi; omega
      · rw [updM_ne _ _ (by omega)] at hbi hbj; exact h.dist i j b hi2 hj2 hbi hbj
    rows := fun id q hq => by
      change (s.rows ++ [r])[id]? = some q at hq
      rw [List.getElem?_append] at hq
      split at hq
      · rename_i hlt
        rw [updM_ne _ _ (by omega)]
        refine RowOK.mono (m := m) hG (by simp) (fun i hi => updM_ne _ _ (by omega)) (h.rows id q hq) (fun hd b hbk => hg.block b (h.lt ⟨q, hq, hd⟩ hbk) (by simp))
      · rename_i hge
        have e : id = s.rows.length := by
          rcases Nat.lt_or_ge (id - s.rows.length) 1 with h1 | h1
          · omega
          · rw [List.getElem?_eq_none (by simpa using h1)] at hq; cases hq
        subst e
        simp at hq
        subst hq
        rw [updM_same]
        simpa using hr hG
    env := fun t => (h.env t).mono hG (by simp) (fun i hi => updM_ne _ _ (by omega)) }


theorem liveAt_set {rows : List Row} {id : Nat} {r : Row} {j : Nat} (h : liveAt (rows.set id r) j) (hid : liveAt rows id) : liveAt rows j := by
  obtain ⟨q, hq, hv⟩ := h
  rw [List.getElem?_set] at hq
  split at hq
  · rename_i e; subst e; exact hid
  · exact ⟨q, hq, hv⟩

theorem getElem?_killRows (id j : Nat) (rows : List Row) : (rows.map (Row.kill id))[j]? = (rows[j]?).map (Row.kill id) := by simp

theorem liveAt_kill {rows : List Row} {id j : Nat} (h : liveAt (rows.map (Row.kill id)) j) : liveAt rows j := by
  obtain ⟨q, hq, hv⟩ := h
  rw [getElem?_killRows] at hq
  simp only [Option.map_eq_some_iff] at hq
  obtain ⟨q', hq', rfl⟩ := hq
  exact ⟨q', hq', by rw [← Row.live_kill id]; exact hv⟩

/-- A row of the call's own is appended to: it may move; whatever names it is struck. -/
theorem SimM.moveRow {C : Ctx} {s : St} {m : Nat → MV} {a : Act} {w w' : World} (h : SimM C s m a w) {id : Nat} (hid : liveAt s.rows id) (hnb : C.nb ≤ id)
    {bo : Option Nat} (hbo : ∀ b, bo = some b → (m id).S b) (hg : w.grownBy w' bo) (r : Row) (v : MV) (hr0 : r.kill id = r)
    (hb : ∀ b, v.S b → (m id).S b ∨ w.heap.size ≤ b)
    (hr : (∀ fr b, Gd C s.rows m w fr b → Gd C ((s.rows.map (Row.kill id)).set id r) (updM m id v) w' fr b ∧ w'.heap[b]? = w.heap[b]?) →
      RowOK w' (Gd C ((s.rows.map (Row.kill id)).set id r) (updM m id v) w') (updM m id v) s.rows.length v r) :
    SimM C { s with env := killE id s.env, rows := (s.rows.map (Row.kill id)).set id r } (updM m id v) a w' := by
  have hidl : id < s.rows.length := by
    obtain ⟨q, hq, _⟩ := hid
    exact (List.getElem?_eq_some_iff.1 hq).1
  have hlive : ∀ j, liveAt ((s.rows.map (Row.kill id)).set id r) j → liveAt s.rows j := by
    intro j ⟨q, hq, hv⟩
    rw [List.getElem?_set] at hq
    split at hq
    · rename_i e; subst e; exact hid
    · exact liveAt_kill ⟨q, hq, hv⟩
  have hG : ∀ fr b, Gd C s.rows m w fr b → Gd C ((s.rows.map (Row.kill id)).set id r) (updM m id v) w' fr b ∧ w'.heap[b]? = w.heap[b]? := by
    refine Gd.step (fun b => (m id).S b) hg.size (fun k hk hn => hg.block k hk (fun e => hn (hbo k e.symm))) (fun k hk => ⟨id, hid, hk⟩) (fun b hlt ⟨j, hl, hbk⟩ => ?_)
    by_cases e : j = id
    · subst e
      rw [updM_same] at hbk
      rcases hb b hbk with h1 | h1
      · exact ⟨j, hid, h1⟩
      · omega
    · rw [updM_ne _ _ e] at hbk
      exact ⟨j, hlive j hl, hbk⟩
  exact {
    defs := h.defs
    size := h.size
    os := hg.os.trans h.os
    tape := hg.tape.trans h.tape
    output := hg.output.trans h.output
    hsz := Nat.le_trans h.hsz hg.size
    old := fun k hk hn => (hg.block k (by have := h.hsz; omega) (fun e => by have := h.newb id k hnb hid (hbo k e.symm); omega)).trans (h.old k hk hn)
    bor := fun j hj => by rw [updM_ne _ _ (by omega)]; exact h.bor j hj
    nbl := by have := h.nbl; simp; omega
    newb := fun j b hj hl hbk => by
      by_cases e : j = id
      · subst e
        rw [updM_same] at hbk
        rcases hb b hbk with h1 | h1
        · exact h.newb j b hj hid h1
        · have := h.hsz; omega
      · rw [updM_ne _ _ e] at hbk; exact h.newb j b hj (hlive j hl) hbk
    dist := fun i j b hi hj hbi hbj => by
      have key : ∀ i j, i = id → j ≠ id → liveAt s.rows j → (updM m id v i).S b → (updM m id v j).S b → False := by
        intro i j hi0 hj0 hjl hbi hbj
        subst hi0
        rw [updM_same] at hbi
        rw [updM_ne _ _ hj0] at hbj
        rcases hb b hbi with h1 | h1
        · exact hj0 (h.dist j i b hjl hid hbj h1)
        · have := h.lt hjl hbj; omega
      by_cases e1 : i = id <;> by_cases e2 : j = id
      · rw [e1, e2]
      · exact (key i j e1 e2 (hlive j hj) hbi hbj).elim
      · exact (key j i e2 e1 (hlive i hi) hbj hbi).elim
      · rw [updM_ne _ _ e1] at hbi
        rw [updM_ne _ _ e2] at hbj
        exact h.dist i j b (hlive i hi) (hlive j hj) hbi hbj
    rows := fun j q hq => by
      change ((s.rows.map (Row.kill id)).set id r)[j]? = some q at hq
      rw [List.getElem?_set] at hq
      split at hq
      · rename_i e
        subst e
        simp [hidl] at hq
        subst hq
        rw [updM_same]
        simpa using hr hG
      · rename_i e
        rw [getElem?_killRows] at hq
        simp only [Option.map_eq_some_iff] at hq
        obtain ⟨q', hq', rfl⟩ := hq
        rw [updM_ne _ _ (Ne.symm e)]
        have := RowOK.kill (id := id) (m := m) (m' := updM m id v) hG (fun i hi => updM_ne _ _ hi) (h.rows j q' hq') (fun hd b hbk => hg.block b (h.lt ⟨q', hq', hd⟩ hbk) (fun eb => e (h.dist id j b hid ⟨q', hq', hd⟩ (hbo b eb.symm) hbk)))
        simpa using this
    env := fun t => by
      rw [look_killE]
      have := (h.env t).kill (id := id) (m := m) (m' := updM m id v) hG (fun i hi => updM_ne _ _ hi)
      simpa using this }

/-- A row of the call's own, or one that it may write, is written where it lies. -/
theorem SimM.storeRow {C : Ctx} {s : St} {m : Nat → MV} {a : Act} {w w' : World} (h : SimM C s m a w) {id : Nat} (hid : liveAt s.rows id)
    {bo : Option Nat} (hbo : ∀ b, bo = some b → (m id).S b) (hg : w.grownBy w' bo) (r : Row)
    (hr : (∀ fr b, Gd C s.rows m w fr b → Gd C (s.rows.set id r) m w' fr b ∧ w'.heap[b]? = w.heap[b]?) →
      RowOK w' (Gd C (s.rows.set id r) m w') m s.rows.length (m id) r) :
    SimM C { s with rows := s.rows.set id r } m a w' := by
  have hidl : id < s.rows.length := by
    obtain ⟨q, hq, _⟩ := hid
    exact (List.getElem?_eq_some_iff.1 hq).1
  have hlive : ∀ j, liveAt (s.rows.set id r) j → liveAt s.rows j := fun j hj => liveAt_set hj hid
  have hG : ∀ fr b, Gd C s.rows m w fr b → Gd C (s.rows.set id r) m w' fr b ∧ w'.heap[b]? = w.heap[b]? :=
    Gd.step (fun b => (m id).S b) hg.size (fun k hk hn => hg.block k hk (fun e => hn (hbo k e.symm))) (fun k hk => ⟨id, hid, hk⟩) (fun b _ ⟨j, hl, hbk⟩ => ⟨j, hlive j hl, hbk⟩)
  exact {
    defs := h.defs
    size := h.size
    os := hg.os.trans h.os
    tape := hg.tape.trans h.tape
    output := hg.output.trans h.output
    hsz := Nat.le_trans h.hsz hg.size
    old := fun k hk hn => by
      refine (hg.block k (by have := h.hsz; omega) (fun e => ?_)).trans (h.old k hk hn)
      by_cases hb : id < C.nb
      · exact hn id hb (by rw [← h.bor id hb]; exact hbo k e.symm)
      · have := h.newb id k (by omega) hid (hbo k e.symm); omega
    bor := h.bor
    nbl := by have := h.nbl; simp; omega
    newb := fun j b hj hl hbk => h.newb j b hj (hlive j hl) hbk
    dist := fun i j b hi hj hbi hbj => h.dist i j b (hlive i hi) (hlive j hj) hbi hbj
    rows := fun j q hq => by
      change (s.rows.set id r)[j]? = some q at hq
      rw [List.getElem?_set] at hq
      split at hq
      · rename_i e
        subst e
        simp at hq
        subst hq
        simpa using hr hG
      · rename_i e
        have := RowOK.mono (N' := s.rows.length) (m' := m) hG (Nat.le_refl _) (fun _ _ => rfl) (h.rows j q hq) (fun hd b hbk => hg.block b (h.lt ⟨q, hq, hd⟩ hbk) (fun eb => e (h.dist id j b hid ⟨q, hq, hd⟩ (hbo b eb.symm) hbk)))
        simpa using this
    env := fun t => by
      have := (h.env t).mono (N' := s.rows.length) (m' := m) hG (Nat.le_refl _) (fun _ _ => rfl)
      simpa using this }

/-- A row is handed on: from now on nobody writes it. -/
def SV.expose (s : SV) (id : Nat) (p : SV) : SV :=
  match s with
  | .ref i => if i = id then p else .ref i
  | .ptr i e k o => if i = id then .any else .ptr i e k o
  | .tup _ => .any
  | s => s

def Row.expose (id : Nat) (p : SV) : Row → Row
  | .var t cs => .var t (cs.map fun c => c.expose id p)
  | r => r

def exposeE (id : Nat) (p : SV) (e : List (Nat × SV)) : List (Nat × SV) := e.map fun q => (q.1, q.2.expose id p)

theorem look_exposeE (id : Nat) (p : SV) (e : List (Nat × SV)) (t : Nat) : look (exposeE id p e) t = (look e t).expose id p := by
  induction e with
  | nil => rfl
  | cons q e ih =>
    obtain ⟨k, v⟩ := q
    show look ((k, v.expose id p) :: exposeE id p e) t = _
    rw [look_cons, look_cons]
    split
    · rfl
    · exact ih

theorem RS.expose {w : World} {G G' : Bool → Nat → Prop} {m : Nat → MV} {N id : Nat} {p : SV} (hG : ∀ fr b, G fr b → G' fr b)
    (hp : RS w G' m N p (m id).v) {s : SV} {v : Value} (h : RS w G m N s v) : RS w G' m N (s.expose id p) v := by
  have hG2 : ∀ fr b, G fr b → G' fr b ∧ w.heap[b]? = w.heap[b]? := fun fr b hb => ⟨hG fr b hb, rfl⟩
  cases h with
  | any v => exact .any v
  | val u => exact .val _
  | und => exact .und
  | pv fr q v h => exact .pv fr q v (h.mono (hG2 fr))
  | ref i hi =>
    simp only [SV.expose]
    split
    · rename_i e; subst e; exact hp
    · exact .ref i hi
  | ptr i e k o b hi h =>
    simp only [SV.expose]
    split
    · exact .any _
    · exact .ptr i e k o b hi h
  | adr fr cs a f hs hg h1 hc hr => exact .adr fr cs a f hs (fun hne => hG fr _ (hg hne)) h1 hc (fun j c hj => (hr j c hj).mono (hG2 fr))
  | tup vs us hl h => exact .any _

/-- The value of a row as one that nobody writes any more. -/
theorem RP.of_row {w : World} {G : Bool → Nat → Prop} {m : Nat → MV} {N : Nat} {v : MV} {t : TypeId} {e : Nat} {nl : Option Bool} {fr : Bool} {xs : List PV}
    (h : RowOK w G m N v (.own t e nl fr xs)) {G' : Nat → Prop} (hG : ∀ b, G fr b → G' b) (hb : ∀ b, v.S b → G' b) : RP w G' (.sl nl e xs) v.v := by
  cases h with
  | own v t e nl fr xs vs hown h1 h2 hw hr =>
    rcases hown.2 with ⟨rfl, hn⟩ | ⟨g, cap, cur, rfl, h0, hh, hle, hmx, hsz, htk⟩
    · have : xs = [] := List.eq_nil_of_length_eq_zero hn
      subst this
      exact .nilsl nl e (fun e => h2 e rfl)
    · refine .sl nl e xs ⟨g, 0, none⟩ xs.length cap (fun i j => (vs[i * e + j]?).getD undef) (fun e => by have := h1 e; simp at this) (fun _ => rfl) rfl hle (fun _ => hb g rfl) hw (fun i x j c hx hc => ?_) (fun i x j c hx hc => ?_)
      · obtain ⟨u, hu, _⟩ := hr i x j c hx hc
        simp only [hu, Option.getD_some]
        rw [cell_of_row w g _ cur t (0, 0) hh]
        rw [← htk, List.getElem?_take] at hu
        split at hu
        · simpa using hu
        · cases hu
      · obtain ⟨u, hu, hp⟩ := hr i x j c hx hc
        simp only [hu, Option.getD_some]
        exact hp.mono (fun b hb => ⟨hG b hb, rfl⟩)

theorem TP.of_tree {w : World} {G : Bool → Nat → Prop} {m : Nat → MV} {N : Nat} {v : MV} {t : TypeId} {e : Nat} {nl : Option Bool} {xs : List PV}
    (h : RowOK w G m N v (.tree t e nl none xs)) : TP w (.sl nl e xs) v.v v.S := by
  cases h with
  | tree mv t e nl h xs vals Sf hown h1 h2 hw hr hd hn hz hS hkn =>
    exact .sl t e nl xs v.v vals Sf v.S hown h1 h2 hw (fun i x j c u hx hc hu => (hr i x j c u hx hc hu).tp) hd hn hz hS

theorem RP.of_tree {w : World} {G : Bool → Nat → Prop} {m : Nat → MV} {N : Nat} {v : MV} {t : TypeId} {e : Nat} {nl : Option Bool} {xs : List PV}
    (h : RowOK w G m N v (.tree t e nl none xs)) {G' : Nat → Prop} (hb : ∀ b, v.S b → G' b) : RP w G' (.sl nl e xs) v.v := (TP.of_tree h).rp hb

theorem SimM.expose {C : Ctx} {s : St} {m : Nat → MV} {a : Act} {w : World} (h : SimM C s m a w) {id : Nat} (hnb : C.nb ≤ id) {t : TypeId} {e : Nat} {nl : Option Bool} {fr : Bool} {xs : List PV}
    (hrow : s.rows[id]? = some (.own t e nl fr xs)) :
    SimM C { s with env := exposeE id (.pv fr (.sl nl e xs)) s.env, rows := (s.rows.map (Row.expose id (.pv fr (.sl nl e xs)))).set id .dead } m a w := by
  have hidl : id < s.rows.length := (List.getElem?_eq_some_iff.1 hrow).1
  have hid : liveAt s.rows id := ⟨_, hrow, rfl⟩
  have hlive' : ∀ j, liveAt ((s.rows.map (Row.expose id (.pv fr (.sl nl e xs)))).set id .dead) j → j ≠ id ∧ liveAt s.rows j := by
    intro j ⟨q, hq, hv⟩
    rw [List.getElem?_set] at hq
    split at hq
    · rename_i e
      subst e
      simp [hidl] at hq
      subst hq
      simp [Row.live] at hv
    · rename_i e
      refine ⟨Ne.symm e, ?_⟩
      simp only [List.getElem?_map, Option.map_eq_some_iff] at hq
      obtain ⟨q', hq', rfl⟩ := hq
      exact ⟨q', hq', by cases q' <;> simp_all [Row.expose, Row.live]⟩
  have hlive : ∀ j, liveAt ((s.rows.map (Row.expose id (.pv fr (.sl nl e xs)))).set id .dead) j → liveAt s.rows j := fun j hj => (hlive' j hj).2
  have hG : ∀ f b, Gd C s.rows m w f b → Gd C ((s.rows.map (Row.expose id (.pv fr (.sl nl e xs)))).set id .dead) m w f b := fun f b hb =>
    (Gd.step (fun _ => False) (Nat.le_refl _) (fun _ _ _ => rfl) (fun _ hf => hf.elim) (fun b _ ⟨j, hl, hbk⟩ => ⟨j, hlive j hl, hbk⟩) f b hb).1
  have hp : RS w (Gd C ((s.rows.map (Row.expose id (.pv fr (.sl nl e xs)))).set id .dead) m w) m s.rows.length (.pv fr (.sl nl e xs)) (m id).v := by
    refine .pv fr _ _ (RP.of_row (h.rows id _ hrow) (hG fr) (fun b hb => ?_))
    have hn := h.newb id b hnb hid hb
    refine ⟨h.lt hid hb, fun ⟨j, hl, hbj⟩ => (hlive' j hl).1 (h.dist j id b (hlive j hl) hid hbj hb), fun _ => .inr hn, fun _ => ⟨hn, ?_⟩⟩
    have := h.rows id _ hrow
    generalize hmv : m id = v at *
    cases this with
    | own v t e nl fr xs vs hown =>
      change blk v = some b at hb
      rcases hown.2 with ⟨rfl, _⟩ | ⟨g, cap, cur, rfl, _, hh, _⟩
      · simp [blk] at hb
      · simp [blk] at hb
        subst hb
        exact ⟨cur, _, hh⟩
  exact {
    defs := h.defs
    size := h.size
    os := h.os
    tape := h.tape
    output := h.output
    hsz := h.hsz
    old := h.old
    bor := h.bor
    nbl := by have := h.nbl; simp; omega
    newb := fun j b hj hl hbk => h.newb j b hj (hlive j hl) hbk
    dist := fun i j b hi hj hbi hbj => h.dist i j b (hlive i hi) (hlive j hj) hbi hbj
    rows := fun j q hq => by
      change ((s.rows.map (Row.expose id (.pv fr (.sl nl e xs)))).set id .dead)[j]? = some q at hq
      rw [List.getElem?_set] at hq
      split at hq
      · rename_i e
        subst e
        simp [hidl] at hq
        subst hq
        exact .dead _
      · rename_i e0
        simp only [List.getElem?_map, Option.map_eq_some_iff] at hq
        obtain ⟨q', hq', rfl⟩ := hq
        have := h.rows j q' hq'
        have hG2 : ∀ f b, Gd C s.rows m w f b → Gd C ((s.rows.map (Row.expose id (.pv fr (.sl nl e xs)))).set id .dead) m w f b ∧ w.heap[b]? = w.heap[b]? := fun f b hb => ⟨hG f b hb, rfl⟩
        cases q' with
        | dead => exact .dead _
        | own t' e' nl' fr' xs' =>
          have := RowOK.mono (N' := s.rows.length) (m' := m) hG2 (Nat.le_refl _) (fun _ _ => rfl) this (fun _ _ _ => rfl)
          simpa [Row.expose] using this
        | var t' cs =>
          generalize hmv : m j = v at *
          cases this with
          | var b t' cs cur hbk hl hr h1 =>
            refine .var b t' _ cur hbk (by simpa using hl) (fun k c u hc hu => ?_) h1
            simp only [List.getElem?_map, Option.map_eq_some_iff] at hc
            obtain ⟨c', hc', rfl⟩ := hc
            have := RS.expose hG hp (hr k c' u hc' hu)
            simpa using this
        | tree t' e' nl' h' xs' =>
          have := RowOK.mono (N' := s.rows.length) (m' := m) hG2 (Nat.le_refl _) (fun _ _ => rfl) this (fun _ _ _ => rfl)
          simpa [Row.expose] using this
    env := fun u => by
      rw [look_exposeE]
      have := RS.expose hG hp (h.env u)
      simpa using this }

end Go.Vl
