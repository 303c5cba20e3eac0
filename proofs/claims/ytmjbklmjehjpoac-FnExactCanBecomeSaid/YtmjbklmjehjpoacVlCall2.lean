/- Calls in general: rows that the callee may write, rows that it hands back. -/
import Derived.Test.YtmjbklmjehjpoacVlOps5
namespace Go.Vl
set_option linter.unusedVariables false
set_option linter.unusedSimpArgs false
open Go.RowKit

/-- The place of a row among those that the callee may write. -/
def placeOf (bs : List Nat) (id : Nat) : Option Nat := match bs with
  | [] => none
  | b :: bs => bif Nat.beq id b then some 0 else (placeOf bs id).map (· + 1)

theorem placeOf_some {bs : List Nat} {id q : Nat} (h : placeOf bs id = some q) : bs[q]? = some id := by
  induction bs generalizing q with
  | nil => simp [placeOf] at h
  | cons b bs ih =>
    simp only [placeOf] at h
    cases hb : Nat.beq id b with
    | true => rw [hb] at h; simp at h; subst h; simp [Nat.eq_of_beq_eq_true hb]
    | false =>
      rw [hb] at h
      simp at h
      obtain ⟨q', hq', rfl⟩ := h
      simpa using ih hq'

theorem placeOf_none {bs : List Nat} {id : Nat} (h : placeOf bs id = none) : id ∉ bs := by
  induction bs with
  | nil => simp
  | cons b bs ih =>
    simp only [placeOf] at h
    cases hb : Nat.beq id b with
    | true => rw [hb] at h; simp at h
    | false =>
      rw [hb] at h
      simp at h
      simp only [List.mem_cons, not_or]
      refine ⟨fun e => ?_, ih h⟩
      subst e
      rw [Nat.beq_refl] at hb
      cases hb

def argOfB (bs : List Nat) (rows : List Row) : SV → Option SV
  | .pv _ p => some (.pv p.scal p)
  | .ref id => match placeOf bs id with
    | some q => some (.ref q)
    | none => match rows[id]? with
      | some (.own _ e nl _ xs) => some (.pv false (.sl nl e xs))
      | some (.tree _ e nl none xs) => some (.pv false (.sl nl e xs))
      | _ => none
  | .ptr id e i o => match placeOf bs id with
    | some q => some (.ptr q e i o)
    | none => none
  | _ => none

def SV.isKept (bs : List Nat) : SV → Bool
  | .ref id => (placeOf bs id).isNone
  | _ => false

def SV.cellArg : SV → SV
  | .pv _ p => .pv p.scal p
  | _ => .any

def Row.toArg : Row → Row
  | .own t e nl _ xs => .own t e nl false xs
  | .var t cs => .var t (cs.map SV.cellArg)
  | .tree _ _ _ (some (_, none)) _ => .dead
  | .tree t e nl (some (_, some _)) xs => .tree t e nl none xs
  | r => r

def SV.shift (bs : List Nat) (N : Nat) : SV → SV
  | .ref id => match bs[id]? with
    | some b => .ref b
    | none => .ref (id - bs.length + N)
  | .ptr id e i o => match bs[id]? with
    | some b => .ptr b e i o
    | none => .ptr (id - bs.length + N) e i o
  | .pv f p => .pv f p
  | _ => .any

def Row.fresh : Row → Bool
  | .own _ _ _ f _ => f
  | .var _ cs => cs.all SV.fresh
  | .dead => true
  | .tree _ _ _ _ _ => true

def SV.noTup : SV → Bool
  | .tup _ => false
  | _ => true

/-- The rows behind a call. -/
def rowsAfter (bs : List Nat) (rows rows' : List Row) : List Row :=
  (rows.mapIdx fun j r => match placeOf bs j with
    | some q => (rows'[q]?).getD .dead
    | none => r) ++ rows'.drop bs.length

theorem cellArg_ok {w : World} {G G' : Bool → Nat → Prop} {m m' : Nat → MV} {N N' : Nat} {c : SV} {u : Value} (hG : ∀ fr b, G fr b → G' false b) (h : RS w G m N c u) : RS w G' m' N' c.cellArg u := by
  cases h with
  | pv fr p v hp =>
    simp only [SV.cellArg]
    cases hsc : p.scal with
    | true => exact .pv _ _ _ (hp.scal_any hsc)
    | false => exact .pv _ _ _ (hp.mono fun b hb => ⟨hG fr b hb, rfl⟩)
  | _ => exact .any _

theorem toArg_ok {w : World} {G G' : Bool → Nat → Prop} {m m' : Nat → MV} {N N' : Nat} {v : MV} {r : Row} (hG : ∀ fr b, G fr b → G' false b) (h : RowOK w G m N v r) : RowOK w G' m' N' v r.toArg := by
  cases h with
  | dead v => exact .dead v
  | own v t e nl fr xs vs hown h1 h2 hw hr =>
    refine .own v t e nl false xs vs hown h1 h2 hw (fun i x j c hx hc => ?_)
    obtain ⟨u, hu, hp⟩ := hr i x j c hx hc
    exact ⟨u, hu, hp.mono fun b hb => ⟨hG fr b hb, rfl⟩⟩
  | var b t cs cur hb hl hr h1 =>
    refine .var b t _ cur hb (by simpa using hl) (fun j c u hc hu => ?_) h1
    simp only [List.getElem?_map, Option.map_eq_some_iff] at hc
    obtain ⟨c', hc', rfl⟩ := hc
    exact cellArg_ok hG (hr j c' u hc' hu)
  | tree mv t e nl h xs vals Sf hown h1 h2 hw hr hd hn hz hS hkn =>
    match h with
    | some (_, none) => exact .dead _
    | some (_, some _) => exact .tree _ t e nl none xs vals Sf hown h1 h2 hw (fun i x j c u hx hc hu => .inl (hr i x j c u hx hc hu).tpK) hd hn hz hS (fun _ _ h => by cases h)
    | none => exact .tree _ t e nl none xs vals Sf hown h1 h2 hw (fun i x j c u hx hc hu => .inl (hr i x j c u hx hc hu).tp) hd hn hz hS (fun _ _ h => by cases h)

theorem toArg_live (r : Row) (h : r.toArg.live = true) : r.live = true := by
  cases r with
  | tree t e nl h9 xs =>
    match h9, h with
    | some (_, none), h => cases h
    | some (_, some _), _ => rfl
    | none, _ => rfl
  | _ => first | rfl | exact h

section
variable {P : Program} {C : Ctx} {Q : Go.Exit → St → Prop} {s : St}

/-- A call by what the function hands back; 'bs' are the rows that it may write. -/
theorem vo_call {ops : Array Oper} {rest : List Oper} {t : Nat} {ty : TypeId} {pos : String} {af : Array Edge} {f : FuncId} {fn : Func} {xs : Array Operand} {Ts : Array TypeId} {args : List SV} {R : List SV → List Row → Prop} (bs : List Nat)
    {brows : List Row} (hf : P.funcs[f]? = some fn) (hnm : (fn.name == "runtime.NumGoroutine") = false) (hbd : fn.body.isNone = false) (ht : Nat.blt t s.n = true)
    (hb1 : bs.map (fun id => (s.rows[id]?).map Row.toArg) = brows.map some) (hb2 : brows.all Row.live = true) (hb3 : bs.map (placeOf bs) = (List.range bs.length).map some)
    (hargs : (xs.toList.map (getO s.env)).mapM (argOfB bs s.rows) = some args) (hsat : SatAt P f args brows R)
    (next : ∀ res rows', R res rows' → bs.length ≤ rows'.length ∧ (res.all SV.noTup = true ∧ rows'.all (Row.bdd 0) = true ∧ (rows'.take bs.length).all Row.live = true) ∧
      (((xs.toList.map (getO s.env)).any (SV.isKept bs) = false) ∨ (res.all SV.fresh = true ∧ rows'.all Row.fresh = true)) ∧
      VO P C ops rest Q ⟨s.n, (t, packS (res.map (SV.shift bs s.rows.length))) :: s.env, rowsAfter bs s.rows rows'⟩) :
    VO P C ops (⟨some t, .call ⟨.value (.func f), xs, Ts⟩, ty, pos, af, none⟩ :: rest) Q s := by
  intro a w ⟨m, hs⟩
  refine wpList_plain rfl fun K hK => ?_
  unfold Oper.wp
  rw [run_call (t := t) hf hnm hbd, Oper.upon_enter]
  have hbrow : ∀ (q id : Nat), bs[q]? = some id → ∃ r, s.rows[id]? = some r ∧ brows[q]? = some r.toArg ∧ r.live = true := by
    intro q id hq
    have h1 : (bs.map (fun id => (s.rows[id]?).map Row.toArg))[q]? = (brows.map some)[q]? := by rw [hb1]
    simp only [List.getElem?_map, hq, Option.map_some] at h1
    cases hr : s.rows[id]? with
    | none =>
      rw [hr] at h1
      cases hq2 : brows[q]? with
      | none => rw [hq2] at h1; simp at h1
      | some r2 => rw [hq2] at h1; simp at h1
    | some r =>
      rw [hr] at h1
      simp only [Option.map_some] at h1
      cases hq2 : brows[q]? with
      | none => rw [hq2] at h1; simp at h1
      | some r2 =>
        rw [hq2] at h1
        simp at h1
        subst h1
        refine ⟨r, rfl, rfl, ?_⟩
        rw [List.all_eq_true] at hb2
        exact toArg_live _ (hb2 _ (List.mem_of_getElem? hq2))
  have hblen : brows.length = bs.length := by
    have := congrArg List.length hb1
    simpa using this.symm
  have hblive : ∀ (q id : Nat), bs[q]? = some id → liveAt s.rows id := fun q id hq => let ⟨r, h1, _, h3⟩ := hbrow q id hq; ⟨r, h1, h3⟩
  have hplace : ∀ (q id : Nat), bs[q]? = some id → placeOf bs id = some q := by
    intro q id hq
    have h1 : (bs.map (placeOf bs))[q]? = ((List.range bs.length).map some)[q]? := by rw [hb3]
    have hlt : q < bs.length := (List.getElem?_eq_some_iff.1 hq).1
    simp only [List.getElem?_map, hq, Option.map_some, List.getElem?_range hlt, Option.some.injEq] at h1
    exact h1
  let kept : Prop := (xs.toList.map (getO s.env)).any (SV.isKept bs) = true
  let bm : Nat → MV := fun q => m ((bs[q]?).getD 0)
  let tk : Nat → Prop := fun b => ∃ (q id : Nat), bs[q]? = some id ∧ (m id).S b
  let C' : Ctx := ⟨w, fun b => Gd C s.rows m w false b ∨ (kept ∧ b < w.heap.size ∧ ¬ tk b), bs.length, bm⟩
  have hlen : args.length = xs.size := by rw [mapM_len hargs]; simp
  have htk : ∀ b, tk b → priv s.rows m b := fun b ⟨q, id, h1, h2⟩ => ⟨id, hblive q id h1, h2⟩
  have hbpriv : ∀ b, priv brows bm b → tk b := by
    rintro b ⟨q, ⟨r, hr, hl⟩, hbk⟩
    have hq : q < bs.length := by rw [← hblen]; exact (List.getElem?_eq_some_iff.1 hr).1
    have hq2 : bs[q]? = some bs[q] := List.getElem?_eq_getElem hq
    exact ⟨q, _, hq2, by simpa [bm, hq2] using hbk⟩
  have hkey : ∀ fr b, Gd C s.rows m w fr b → Gd C' brows bm w false b := fun fr b hb =>
    ⟨hb.1, fun hp => hb.2.1 (htk b (hbpriv b hp)), fun _ => .inl (.inl hb.weak), fun e => by cases e⟩
  have hs0 : SimM C' ⟨(xs.map a.eval).size, enumE 0 args, brows⟩ bm ⟨xs.map a.eval, []⟩ C'.w0 := {
    defs := rfl
    size := rfl
    os := rfl
    tape := rfl
    output := rfl
    hsz := Nat.le_refl _
    old := fun _ _ _ => rfl
    bor := fun _ _ => rfl
    nbl := by show bs.length ≤ brows.length; omega
    newb := fun id b hge hl _ => by
      obtain ⟨r, hr, _⟩ := hl
      have h1 : id < brows.length := (List.getElem?_eq_some_iff.1 hr).1
      change bs.length ≤ id at hge
      omega
    dist := fun i j b hi hj hbi hbj => by
      obtain ⟨r, hr, _⟩ := hi
      obtain ⟨r2, hr2, _⟩ := hj
      have hi1 : i < bs.length := by rw [← hblen]; exact (List.getElem?_eq_some_iff.1 hr).1
      have hj1 : j < bs.length := by rw [← hblen]; exact (List.getElem?_eq_some_iff.1 hr2).1
      have hi2 : bs[i]? = some bs[i] := List.getElem?_eq_getElem hi1
      have hj2 : bs[j]? = some bs[j] := List.getElem?_eq_getElem hj1
      simp only [bm, hi2, hj2, Option.getD_some] at hbi hbj
      have := hs.dist _ _ b (hblive i _ hi2) (hblive j _ hj2) hbi hbj
      have p1 := hplace i _ hi2
      have p2 := hplace j _ hj2
      rw [this, p2] at p1
      cases p1
      rfl
    rows := fun q r hr => by
      have hq : q < bs.length := by rw [← hblen]; exact (List.getElem?_eq_some_iff.1 hr).1
      have hq2 : bs[q]? = some bs[q] := List.getElem?_eq_getElem hq
      obtain ⟨r0, h1, h2, h3⟩ := hbrow q _ hq2
      change brows[q]? = some r at hr
      rw [hr] at h2
      cases h2
      have : bm q = m bs[q] := by simp [bm, hq2]
      rw [this]
      exact toArg_ok hkey (hs.rows _ _ h1)
    env := fun u => by
      show RS w _ _ _ (look (enumE 0 args) u) _
      rw [look_enumE]
      simp only [Nat.zero_le, if_true, Nat.sub_zero]
      rcases Nat.lt_or_ge u xs.size with hu | hu
      · have hx : (xs.toList.map (getO s.env))[u]? = some (getO s.env xs[u]) := by simp [hu]
        obtain ⟨y, hy, hg⟩ := mapM_get hargs u _ hx
        rw [hy]
        simp only [Option.getD_some]
        have e2 : (xs.map a.eval).getD u undef = a.eval xs[u] := by simp [Array.getD, hu]
        show RS w _ _ _ y ((xs.map a.eval).getD u undef)
        rw [e2]
        have hv := hs.get xs[u]
        generalize hgx : getO s.env xs[u] = gx at *
        generalize a.eval xs[u] = v at *
        cases hv with
        | pv fr p v hp =>
          simp only [argOfB, Option.some.injEq] at hg
          subst hg
          cases hsc : p.scal with
          | true => exact .pv _ _ _ (hp.scal_any hsc)
          | false => exact .pv _ _ _ (hp.mono fun b hb => ⟨hkey fr b hb, rfl⟩)
        | ref id hid =>
          simp only [argOfB] at hg
          split at hg
          · rename_i q hq
            simp at hg
            subst hg
            have hq2 := placeOf_some hq
            have : m id = bm q := by simp [bm, hq2]
            rw [this]
            exact .ref q (by show q < brows.length; rw [hblen]; exact (List.getElem?_eq_some_iff.1 hq2).1)
          · rename_i hq
            split at hg
            · rename_i t' e nl fr ys hrow
              simp at hg
              subst hg
              refine .pv _ _ _ (RP.of_row (hs.rows id _ hrow) (fun b hb => hkey _ b hb) (fun b hb => ?_))
              have hlt := hs.lt ⟨_, hrow, rfl⟩ hb
              have hk : kept := by
                show (xs.toList.map (getO s.env)).any (SV.isKept bs) = true
                rw [List.any_eq_true]
                exact ⟨.ref id, List.mem_of_getElem? hx, by simp [SV.isKept, hq]⟩
              have hnt : ¬ tk b := by
                rintro ⟨q, id', h1, h2⟩
                have := hs.dist id id' b ⟨_, hrow, rfl⟩ (hblive q id' h1) hb h2
                subst this
                exact placeOf_none hq (List.mem_of_getElem? h1)
              exact ⟨hlt, fun hp => hnt (hbpriv b hp), fun _ => .inl (.inr ⟨hk, hlt, hnt⟩), fun e => by cases e⟩
            · rename_i t' e nl ys hrow
              simp at hg
              subst hg
              refine .pv _ _ _ (RP.of_tree (hs.rows id _ hrow) (fun b hb => ?_))
              have hlt := hs.lt ⟨_, hrow, rfl⟩ hb
              have hk : kept := by
                show (xs.toList.map (getO s.env)).any (SV.isKept bs) = true
                rw [List.any_eq_true]
                exact ⟨.ref id, List.mem_of_getElem? hx, by simp [SV.isKept, hq]⟩
              have hnt : ¬ tk b := by
                rintro ⟨q, id', h1, h2⟩
                have := hs.dist id id' b ⟨_, hrow, rfl⟩ (hblive q id' h1) hb h2
                subst this
                exact placeOf_none hq (List.mem_of_getElem? h1)
              exact ⟨hlt, fun hp => hnt (hbpriv b hp), fun _ => .inl (.inr ⟨hk, hlt, hnt⟩), fun e => by cases e⟩
            · simp at hg
        | ptr id e i o b hid hbk =>
          simp only [argOfB] at hg
          split at hg
          · rename_i q hq
            simp at hg
            subst hg
            have hq2 := placeOf_some hq
            have : m id = bm q := by simp [bm, hq2]
            exact .ptr q e i o b (by show q < brows.length; rw [hblen]; exact (List.getElem?_eq_some_iff.1 hq2).1) (by rw [← this]; exact hbk)
          · simp at hg
        | _ => simp [argOfB] at hg
      · rw [List.getElem?_eq_none (by omega)]
        exact .any _ }
  refine (hsat C' bm (xs.map a.eval) hblen.symm (fun b hb => hb.elim (fun h => h.1) (fun h => h.2.1)) (by simp [hlen]) hs0).mono ?_
  rintro e w' ⟨us, res, rows', m2, rfl, hus, hs', hR⟩
  obtain ⟨hbl, ⟨hnt, hbdd, hlv⟩, hfr, hnx⟩ := next res rows' hR
  have hsz : w.heap.size ≤ w'.heap.size := hs'.hsz
  have hold : ∀ k, k < w.heap.size → ¬ tk k → w'.heap[k]? = w.heap[k]? := fun k hk hn => hs'.old k hk (fun q hq hbk => by
    have hq2 : bs[q]? = some bs[q] := List.getElem?_eq_getElem hq
    exact hn ⟨q, _, hq2, by simpa [C', bm, hq2] using hbk⟩)
  let N := s.rows.length
  let m3 : Nat → MV := fun j => if j < N then m j else m2 (j - N + bs.length)
  let nr := rowsAfter bs s.rows rows'
  have hm3 : ∀ j, j < N → m3 j = m j := fun j hj => by simp [m3, hj]
  have hm2b : ∀ (q id : Nat), bs[q]? = some id → m2 q = m id := by
    intro q id hq
    have := hs'.bor q (List.getElem?_eq_some_iff.1 hq).1
    rw [this]
    show bm q = m id
    simp [bm, hq]
  have hnrlen : nr.length = N + (rows'.length - bs.length) := by simp [nr, rowsAfter, N]
  have hnr1 : ∀ j, j < N → ∃ r0, s.rows[j]? = some r0 ∧ ((∃ q : Nat, bs[q]? = some j ∧ ∃ r', rows'[q]? = some r' ∧ nr[j]? = some r') ∨ (j ∉ bs ∧ nr[j]? = some r0)) := by
    intro j hj
    have h0 : s.rows[j]? = some s.rows[j] := List.getElem?_eq_getElem hj
    refine ⟨_, h0, ?_⟩
    have h1 : nr[j]? = some (match placeOf bs j with | some q => (rows'[q]?).getD .dead | none => s.rows[j]) := by
      simp only [nr, rowsAfter]
      rw [List.getElem?_append_left (by simp; exact hj)]
      simp [List.getElem?_mapIdx, h0]
    cases hp : placeOf bs j with
    | none => right; rw [hp] at h1; exact ⟨placeOf_none hp, h1⟩
    | some q =>
      left
      rw [hp] at h1
      have hq := placeOf_some hp
      have hq1 : q < rows'.length := Nat.lt_of_lt_of_le (List.getElem?_eq_some_iff.1 hq).1 hbl
      have hq2 : rows'[q]? = some rows'[q] := List.getElem?_eq_getElem hq1
      refine ⟨q, hq, _, hq2, ?_⟩
      rw [h1]
      show some ((rows'[q]?).getD Row.dead) = _
      rw [hq2]
      rfl
  have hnr2 : ∀ j, N ≤ j → nr[j]? = rows'[j - N + bs.length]? := by
    intro j hj
    simp only [nr, rowsAfter]
    rw [List.getElem?_append_right (by simp; exact hj)]
    simp only [List.length_mapIdx, List.getElem?_drop]
    congr 1
    omega
  have hnlive : ∀ j, j < N → liveAt nr j → liveAt s.rows j := by
    intro j hj ⟨r, hr, hl⟩
    obtain ⟨r0, h0, h | h⟩ := hnr1 j hj
    · obtain ⟨q, hq, _⟩ := h
      exact hblive q j hq
    · rw [h.2] at hr
      cases hr
      exact ⟨r, h0, hl⟩
  have hnew : ∀ j b, N ≤ j → liveAt nr j → (m3 j).S b → liveAt rows' (j - N + bs.length) ∧ (m2 (j - N + bs.length)).S b ∧ w.heap.size ≤ b := by
    intro j b hj ⟨r, hr, hl⟩ hbk
    rw [hnr2 j hj] at hr
    have e1 : m3 j = m2 (j - N + bs.length) := by simp [m3, Nat.not_lt.2 hj]
    rw [e1] at hbk
    exact ⟨⟨r, hr, hl⟩, hbk, hs'.newb _ b (by show bs.length ≤ _; omega) ⟨r, hr, hl⟩ hbk⟩
  have hG : ∀ f b, Gd C s.rows m w f b → Gd C nr m3 w' f b ∧ w'.heap[b]? = w.heap[b]? := by
    refine Gd.step tk hsz hold htk (fun b hlt ⟨j, hl, hbk⟩ => ?_)
    rcases Nat.lt_or_ge j N with hj | hj
    · rw [hm3 j hj] at hbk
      exact ⟨j, hnlive j hj hl, hbk⟩
    · have := (hnew j b hj hl hbk).2.2
      omega
  have hG2 : ∀ fl b, (fl = true ∨ ¬ kept) → Gd C' rows' m2 w' fl b → Gd C nr m3 w' fl b := by
    intro fl b hk hb
    have hnp : ¬ priv nr m3 b := by
      rintro ⟨j, hl, hbk⟩
      rcases Nat.lt_or_ge j N with hj | hj
      · obtain ⟨r0, h0, h | h⟩ := hnr1 j hj
        · obtain ⟨q, hq, r', hr', hn⟩ := h
          rw [hm3 j hj, ← hm2b q j hq] at hbk
          refine hb.2.1 ⟨q, ⟨r', hr', ?_⟩, hbk⟩
          rw [List.all_eq_true] at hlv
          refine hlv r' (List.mem_of_getElem? (i := q) ?_)
          rw [List.getElem?_take, if_pos (List.getElem?_eq_some_iff.1 hq).1]
          exact hr'
        · rw [hm3 j hj] at hbk
          have hpl : priv s.rows m b := ⟨j, hnlive j hj hl, hbk⟩
          have hlt := hs.lt (hnlive j hj hl) hbk
          cases fl with
          | true => have := (hb.2.2.2 rfl).1; change w.heap.size ≤ b at this; omega
          | false =>
            rcases hb.2.2.1 rfl with hA | hA
            · rcases hA with hA | hA
              · exact hA.2.1 hpl
              · rcases hk with hk | hk
                · cases hk
                · exact hk hA.1
            · change w.heap.size ≤ b at hA; omega
      · obtain ⟨h1, h2, _⟩ := hnew j b hj hl hbk
        exact hb.2.1 ⟨_, h1, h2⟩
    refine ⟨hb.1, hnp, fun e => ?_, fun e => ?_⟩
    · rcases hb.2.2.1 e with hA | hA
      · rcases hA with hA | hA
        · exact hA.2.2.1 rfl
        · rcases hk with hk | hk
          · rw [hk] at e; cases e
          · exact (hk hA.1).elim
      · exact .inr (Nat.le_trans hs.hsz hA)
    · have h4 := hb.2.2.2 e
      exact ⟨Nat.le_trans hs.hsz h4.1, h4.2⟩
  have hrowC : ∀ (q : Nat) (r : Row), rows'[q]? = some r → RowOK w' (Gd C nr m3 w') m3 nr.length (m2 q) r := by
    intro q r hr
    have h0 := hs'.rows q r hr
    have hfq : kept → r.fresh = true := by
      intro hk
      rcases hfr with h | h
      · have hk' : (xs.toList.map (getO s.env)).any (SV.isKept bs) = true := hk
        rw [h] at hk'; cases hk'
      · have := h.2
        rw [List.all_eq_true] at this
        exact this r (List.mem_of_getElem? hr)
    have hbq : r.bdd 0 = true := by rw [List.all_eq_true] at hbdd; exact hbdd r (List.mem_of_getElem? hr)
    have hor : ∀ fl : Bool, (kept → fl = true) → (fl = true ∨ ¬ kept) := fun fl h => by
      by_cases hk : kept
      · exact .inl (h hk)
      · exact .inr hk
    change RowOK w' (Gd C' rows' m2 w') m2 rows'.length (m2 q) r at h0
    generalize m2 q = v at *
    cases h0 with
    | dead v => exact .dead v
    | own v t e nl fr xs vs hown h1 h2 hw hr' =>
      refine .own v t e nl fr xs vs hown h1 h2 hw (fun i x j c hx hc => ?_)
      obtain ⟨u, hu, hp⟩ := hr' i x j c hx hc
      exact ⟨u, hu, hp.mono fun b hb => ⟨hG2 fr b (hor fr hfq) hb, rfl⟩⟩
    | tree mv t e nl h xs vals Sf hown h1 h2 hw hr9 hd hn hz hS hkn => exact .tree _ t e nl h xs vals Sf hown h1 h2 hw hr9 hd hn hz hS hkn
    | var b t cs cur hb hl hr' h1 =>
      refine .var b t cs cur hb hl (fun j c u hc hu => ?_) h1
      have hv := hr' j c u hc hu
      have hcb : c.bdd 0 = true := by
        simp only [Row.bdd, List.all_eq_true] at hbq
        exact hbq c (List.mem_of_getElem? hc)
      have hcf : kept → c.fresh = true := by
        intro hk
        have := hfq hk
        simp only [Row.fresh, List.all_eq_true] at this
        exact this c (List.mem_of_getElem? hc)
      cases hv with
      | any v => exact .any _
      | val u => exact .val _
      | und => exact .und
      | pv fr p v hp =>
        cases hsc : p.scal with
        | true => exact .pv _ _ _ (hp.scal_any hsc)
        | false => exact .pv _ _ _ (hp.mono fun b hb => ⟨hG2 fr b (hor fr fun hk => by have := hcf hk; simpa [SV.fresh, hsc] using this) hb, rfl⟩)
      | ref i hi => simp [SV.bdd] at hcb
      | ptr i e' k o b' hi hbk => simp [SV.bdd] at hcb
      | adr fr cs' a' f' hsp hg h1' hc' hr2 =>
        by_cases hk : kept
        · have := hcf hk; simp [SV.fresh] at this
        · exact .adr fr cs' a' f' hsp (fun hne => hG2 fr _ (.inr hk) (hg hne)) h1' hc' (fun j c hj => (hr2 j c hj).mono fun b hb => ⟨hG2 fr b (.inr hk) hb, rfl⟩)
      | tup vs us' hl' h' => simp [SV.bdd] at hcb
  have hs2 : SimM C ⟨s.n, s.env, nr⟩ m3 a w' := {
    defs := hs.defs
    size := hs.size
    os := hs'.os.trans hs.os
    tape := hs'.tape.trans hs.tape
    output := hs'.output.trans hs.output
    hsz := Nat.le_trans hs.hsz hsz
    old := fun k hk hn => by
      refine (hold k (by have := hs.hsz; omega) ?_).trans (hs.old k hk hn)
      rintro ⟨q, id, h1, h2⟩
      by_cases hid : id < C.nb
      · exact hn id hid (by rw [← hs.bor id hid]; exact h2)
      · have := hs.newb id k (by omega) (hblive q id h1) h2; omega
    bor := fun id hid => by rw [hm3 id (by have := hs.nbl; show id < N; omega)]; exact hs.bor id hid
    nbl := by have := hs.nbl; show C.nb ≤ nr.length; rw [hnrlen]; show C.nb ≤ s.rows.length + _; omega
    newb := fun j b hj hl hbk => by
      rcases Nat.lt_or_ge j N with h | h
      · rw [hm3 j h] at hbk; exact hs.newb j b hj (hnlive j h hl) hbk
      · have := (hnew j b h hl hbk).2.2; have := hs.hsz; omega
    dist := fun i j b hi hj hbi hbj => by
      rcases Nat.lt_or_ge i N with h1 | h1 <;> rcases Nat.lt_or_ge j N with h2 | h2
      · rw [hm3 i h1] at hbi; rw [hm3 j h2] at hbj
        exact hs.dist i j b (hnlive i h1 hi) (hnlive j h2 hj) hbi hbj
      · rw [hm3 i h1] at hbi
        have e1 := hs.lt (hnlive i h1 hi) hbi
        have e2 := (hnew j b h2 hj hbj).2.2
        omega
      · rw [hm3 j h2] at hbj
        have e1 := hs.lt (hnlive j h2 hj) hbj
        have e2 := (hnew i b h1 hi hbi).2.2
        omega
      · obtain ⟨l1, b1, _⟩ := hnew i b h1 hi hbi
        obtain ⟨l2, b2, _⟩ := hnew j b h2 hj hbj
        have := hs'.dist _ _ b l1 l2 b1 b2
        omega
    rows := fun j r hr => by
      change nr[j]? = some r at hr
      show RowOK w' (Gd C nr m3 w') m3 nr.length (m3 j) r
      rcases Nat.lt_or_ge j N with h | h
      · rw [hm3 j h]
        obtain ⟨r0, h0, hh | hh⟩ := hnr1 j h
        · obtain ⟨q, hq, r', hr', hn⟩ := hh
          rw [hn] at hr
          cases hr
          rw [← hm2b q j hq]
          exact hrowC q r hr'
        · rw [hh.2] at hr
          cases hr
          refine RowOK.mono hG (by rw [hnrlen]; exact Nat.le_add_right _ _) (fun id hid => hm3 id hid) (hs.rows j r h0) (fun hl b hb => hold b (hs.lt ⟨r, h0, hl⟩ hb) ?_)
          rintro ⟨q, id, h1, h2⟩
          have := hs.dist j id b ⟨r, h0, hl⟩ (hblive q id h1) hb h2
          subst this
          exact hh.1 (List.mem_of_getElem? h1)
      · rw [hnr2 j h] at hr
        have e1 : m3 j = m2 (j - N + bs.length) := by simp [m3, Nat.not_lt.2 h]
        rw [e1]
        exact hrowC _ r hr
    env := fun u => by
      refine (hs.env u).mono hG ?_ (fun id hid => hm3 id hid)
      show s.rows.length ≤ nr.length
      rw [hnrlen]
      exact Nat.le_add_right _ _ }
  have hres : ∀ (j : Nat) (r : SV), res[j]? = some r → RS w' (Gd C nr m3 w') m3 nr.length (r.shift bs N) (us.getD j undef) := by
    intro j r hj
    have hv := hs'.env j
    change RS w' _ _ _ (look (enumE 0 res) j) (us.getD j undef) at hv
    rw [look_enumE] at hv
    simp only [Nat.zero_le, if_true, Nat.sub_zero, hj, Option.getD_some] at hv
    have hrf : kept → r.fresh = true := by
      intro hk
      rcases hfr with h | h
      · have hk' : (xs.toList.map (getO s.env)).any (SV.isKept bs) = true := hk
        rw [h] at hk'; cases hk'
      · have := h.1
        rw [List.all_eq_true] at this
        exact this r (List.mem_of_getElem? hj)
    have hrt : r.noTup = true := by rw [List.all_eq_true] at hnt; exact hnt r (List.mem_of_getElem? hj)
    have hidx : ∀ i, i < rows'.length → ∃ i', i' < nr.length ∧ m3 i' = m2 i ∧ (match bs[i]? with | some b => b | none => i - bs.length + N) = i' := by
      intro i hi
      cases hbi : bs[i]? with
      | some b =>
        have hbN : b < N := by
          obtain ⟨r, hr, _⟩ := hblive i b hbi
          exact (List.getElem?_eq_some_iff.1 hr).1
        exact ⟨b, by rw [hnrlen]; omega, by rw [hm3 b hbN]; exact (hm2b i b hbi).symm, rfl⟩
      | none =>
        have hge : bs.length ≤ i := by simpa using hbi
        refine ⟨i - bs.length + N, by rw [hnrlen]; omega, ?_, rfl⟩
        simp only [m3]
        rw [if_neg (by omega)]
        congr 1
        omega
    generalize us.getD j undef = v at *
    cases hv with
    | any v => exact .any _
    | val u => exact .any _
    | und => exact .any _
    | pv fr p v hp =>
      simp only [SV.shift]
      cases hsc : p.scal with
      | true => exact .pv _ _ _ (hp.scal_any hsc)
      | false =>
        refine .pv _ _ _ (hp.mono fun b hb => ⟨hG2 fr b ?_ hb, rfl⟩)
        by_cases hk : kept
        · left; have := hrf hk; simpa [SV.fresh, hsc] using this
        · exact .inr hk
    | ref i hi =>
      obtain ⟨i', h1, h2, h3⟩ := hidx i hi
      have e : SV.shift bs N (.ref i) = .ref i' := by
        simp only [SV.shift]
        cases hbi : bs[i]? <;> rw [hbi] at h3 <;> simp_all
      rw [e, ← h2]
      exact .ref i' h1
    | ptr i e k o b hi hbk =>
      obtain ⟨i', h1, h2, h3⟩ := hidx i hi
      have e : SV.shift bs N (.ptr i e k o) = .ptr i' e k o := by
        simp only [SV.shift]
        cases hbi : bs[i]? <;> rw [hbi] at h3 <;> simp_all
      rw [e]
      exact .ptr i' _ _ _ b h1 (by rw [h2]; exact hbk)
    | adr fr cs' a' f' hsp hg h1' hc' hr2 => exact .any _
    | tup vs us' hl' h' => simp [SV.noTup] at hrt
  have hput := hs2.put (blt_lt ht) (sv := packS (res.map (SV.shift bs N))) (v := pack us) (by
    match res, hus, hres with
    | [], hus, _ =>
      have : us = #[] := Array.eq_empty_of_size_eq_zero (by simpa using hus)
      subst this
      exact .tup _ _ rfl (fun j c v hc => by simp at hc)
    | [r], hus, hres =>
      have h1 : us.size = 1 := by simpa using hus
      have := hres 0 r rfl
      simp only [packS, pack, h1, dif_pos, List.map_cons, List.map_nil]
      simpa [Array.getD, h1] using this
    | r1 :: r2 :: rs, hus, hres =>
      have h1 : us.size ≠ 1 := by rw [hus]; simp
      simp only [packS, pack, h1, dif_neg, not_false_iff, List.map_cons]
      refine .tup _ _ (by rw [hus]; simp) (fun j c v hc hv => ?_)
      have hc2 : ((r1 :: r2 :: rs).map (SV.shift bs N))[j]? = some c := by simpa using hc
      simp only [List.getElem?_map, Option.map_eq_some_iff] at hc2
      obtain ⟨c', hc', rfl⟩ := hc2
      have := hres j c' hc'
      have e : us.getD j undef = v := by
        rw [Array.getElem?_eq_some_iff] at hv
        obtain ⟨hlt, e⟩ := hv
        simp [Array.getD, hlt, e]
      rw [e] at this
      exact this)
  exact hK _ _ (hnx _ _ ⟨m3, hput⟩)

end
end Go.Vl
