/- Part 4 of the texts that the proof of FnExactIsSub is built on. -/
import Derived.Test.YtlpchicpbnmdgacVl3
import Derived.Sort.OwnSortedInts
import Derived.Shelf.Slices.CompactI
/- Calls by any operation that enters a function: by name, through an interface, of a value. -/
namespace Go.Vl
set_option linter.unusedVariables false
set_option linter.unusedSimpArgs false
open Go.RowKit
section
variable {P : Program} {C : Ctx} {Q : Go.Exit → St → Prop} {s : St}

/-- An operation that enters a function, by what that hands back; 'bs' are the rows that it may write. -/
theorem ow_callA {op : Op} {t : Nat} {ty : TypeId} {pos : String} {af : Array Edge} {gd : Option (Nat × Bool)} {f : FuncId} {va : Array Value} {sa : List SV} {args : List SV} {R : List SV → List Row → Prop} (bs : List Nat)
    {brows : List Row} {m : Nat → MV} {a : Act} {w : World} {K : Act → World → Prop} {Q' : Go.Exit → Act → World → Prop} (hs : SimM C s m a w)
    (hrun : (execOp a.eval ⟨some t, op, ty, pos, af, gd⟩).run P w = .ok (.enter f va) w) (hva : va.size = sa.length)
    (hvs : ∀ (u : Nat) (x : SV), sa[u]? = some x → RS w (Gd C s.rows m w) m s.rows.length x (va.getD u undef)) (ht : Nat.blt t s.n = true)
    (hb1 : bs.map (fun id => (s.rows[id]?).map Row.toArg) = brows.map some) (hb2 : brows.all Row.live = true) (hb3 : bs.map (placeOf bs) = (List.range bs.length).map some)
    (hargs : sa.mapM (argOfB bs s.rows) = some args) (hsat : SatAt P f args brows R)
    (next : ∀ res rows', R res rows' → bs.length ≤ rows'.length ∧ (res.all SV.noTup = true ∧ rows'.all (Row.bdd 0) = true ∧ (rows'.take bs.length).all Row.live = true ∧ rows'.all Row.noGh = true) ∧
      ((sa.any (SV.isKept bs) = false) ∨ (res.all SV.fresh = true ∧ rows'.all Row.fresh = true)) ∧
      ∀ m' a' w', SimM C ⟨s.n, (t, packS (res.map (SV.shift bs s.rows.length))) :: s.env, rowsAfter bs s.rows rows'⟩ m' a' w' → w.heap.size ≤ w'.heap.size →
        (∀ k, k < w.heap.size → (∀ (q id : Nat), bs[q]? = some id → ¬ (m id).S k) → w'.heap[k]? = w.heap[k]?) → K a' w') :
    Oper.wp P ⟨some t, op, ty, pos, af, gd⟩ a w K Q' := by
  unfold Oper.wp
  rw [hrun, Oper.upon_enter]
  have hbrow : ∀ (q id : Nat), bs[q]? = some id → ∃ r, s.rows[id]? = some r ∧ brows[q]? = some r.toArg ∧ r.live = true := by
    intro q id hq
    have h1 : (bs.map (fun id => (s.rows[id]?).map Row.toArg))[q]? = (brows.map some)[q]? := by rw [hb1]
    simp only [List.getElem?_map, hq, Option.map_some] at h1
    cases hr : s.rows[id]? with
    | none =>
      rw [hr] at h1
      cases hq2 : brows[q]? with
      | none => rw [hq2] at h1; simp at h1
      | some r2 => rw [hq2] at h1; simp at h1
    | some r =>
      rw [hr] at h1
      simp only [Option.map_some] at h1
      cases hq2 : brows[q]? with
      | none => rw [hq2] at h1; simp at h1
      | some r2 =>
        rw [hq2] at h1
        simp at h1
        subst h1
        refine ⟨r, rfl, rfl, ?_⟩
        rw [List.all_eq_true] at hb2
        exact toArg_live _ (hb2 _ (List.mem_of_getElem? hq2))
  have hblen : brows.length = bs.length := by
    have := congrArg List.length hb1
    simpa using this.symm
  have hblive : ∀ (q id : Nat), bs[q]? = some id → liveAt s.rows id := fun q id hq => let ⟨r, h1, _, h3⟩ := hbrow q id hq; ⟨r, h1, h3⟩
  have hplace : ∀ (q id : Nat), bs[q]? = some id → placeOf bs id = some q := by
    intro q id hq
    have h1 : (bs.map (placeOf bs))[q]? = ((List.range bs.length).map some)[q]? := by rw [hb3]
    have hlt : q < bs.length := (List.getElem?_eq_some_iff.1 hq).1
    simp only [List.getElem?_map, hq, Option.map_some, List.getElem?_range hlt, Option.some.injEq] at h1
    exact h1
  let kept : Prop := sa.any (SV.isKept bs) = true
  let bm : Nat → MV := fun q => m ((bs[q]?).getD 0)
  let tk : Nat → Prop := fun b => ∃ (q id : Nat), bs[q]? = some id ∧ (m id).S b
  let C' : Ctx := ⟨w, fun b => Gd C s.rows m w false b ∨ (kept ∧ b < w.heap.size ∧ ¬ tk b), bs.length, bm⟩
  have hlen : args.length = va.size := by rw [mapM_len hargs, hva]
  have htk : ∀ b, tk b → priv s.rows m b := fun b ⟨q, id, h1, h2⟩ => ⟨id, hblive q id h1, h2⟩
  have hbpriv : ∀ b, priv brows bm b → tk b := by
    rintro b ⟨q, ⟨r, hr, hl⟩, hbk⟩
    have hq : q < bs.length := by rw [← hblen]; exact (List.getElem?_eq_some_iff.1 hr).1
    have hq2 : bs[q]? = some bs[q] := List.getElem?_eq_getElem hq
    exact ⟨q, _, hq2, by simpa [bm, hq2] using hbk⟩
  have hkey : ∀ fr b, Gd C s.rows m w fr b → Gd C' brows bm w false b := fun fr b hb =>
    ⟨hb.1, fun hp => hb.2.1 (htk b (hbpriv b hp)), fun _ => .inl (.inl hb.weak), fun e => by cases e⟩
  have hs0 : SimM C' ⟨va.size, enumE 0 args, brows⟩ bm ⟨va, []⟩ C'.w0 := {
    defs := rfl
    size := rfl
    os := rfl
    tape := rfl
    output := rfl
    hsz := Nat.le_refl _
    old := fun _ _ _ => rfl
    bor := fun _ _ => rfl
    nbl := by show bs.length ≤ brows.length; omega
    newb := fun id b hge hl _ => by
      obtain ⟨r, hr, _⟩ := hl
      have h1 : id < brows.length := (List.getElem?_eq_some_iff.1 hr).1
      change bs.length ≤ id at hge
      omega
    dist := fun i j b hi hj hbi hbj => by
      obtain ⟨r, hr, _⟩ := hi
      obtain ⟨r2, hr2, _⟩ := hj
      have hi1 : i < bs.length := by rw [← hblen]; exact (List.getElem?_eq_some_iff.1 hr).1
      have hj1 : j < bs.length := by rw [← hblen]; exact (List.getElem?_eq_some_iff.1 hr2).1
      have hi2 : bs[i]? = some bs[i] := List.getElem?_eq_getElem hi1
      have hj2 : bs[j]? = some bs[j] := List.getElem?_eq_getElem hj1
      simp only [bm, hi2, hj2, Option.getD_some] at hbi hbj
      have := hs.dist _ _ b (hblive i _ hi2) (hblive j _ hj2) hbi hbj
      have p1 := hplace i _ hi2
      have p2 := hplace j _ hj2
      rw [this, p2] at p1
      cases p1
      rfl
    rows := fun q r hr => by
      have hq : q < bs.length := by rw [← hblen]; exact (List.getElem?_eq_some_iff.1 hr).1
      have hq2 : bs[q]? = some bs[q] := List.getElem?_eq_getElem hq
      obtain ⟨r0, h1, h2, h3⟩ := hbrow q _ hq2
      change brows[q]? = some r at hr
      rw [hr] at h2
      cases h2
      have : bm q = m bs[q] := by simp [bm, hq2]
      rw [this]
      exact toArg_ok hkey (hs.rows _ _ h1)
    env := fun u => by
      show RS w _ _ _ (look (enumE 0 args) u) _
      rw [look_enumE]
      simp only [Nat.zero_le, if_true, Nat.sub_zero]
      rcases Nat.lt_or_ge u va.size with hu | hu
      · have hx : sa[u]? = some (sa[u]'(by omega)) := List.getElem?_eq_getElem (by omega)
        obtain ⟨y, hy, hg⟩ := mapM_get hargs u _ hx
        rw [hy]
        simp only [Option.getD_some]
        show RS w _ _ _ y (va.getD u undef)
        have hv := hvs u _ hx
        generalize hgx : sa[u]'(by omega) = gx at *
        generalize va.getD u undef = v at *
        cases hv with
        | pv fr p v hp =>
          simp only [argOfB, Option.some.injEq] at hg
          subst hg
          cases hsc : p.scal with
          | true => exact .pv _ _ _ (hp.scal_any hsc)
          | false => exact .pv _ _ _ (hp.mono fun b hb => ⟨hkey fr b hb, rfl⟩)
        | ref id hid =>
          simp only [argOfB] at hg
          split at hg
          · rename_i q hq
            simp at hg
            subst hg
            have hq2 := placeOf_some hq
            have : m id = bm q := by simp [bm, hq2]
            rw [this]
            exact .ref q (by show q < brows.length; rw [hblen]; exact (List.getElem?_eq_some_iff.1 hq2).1)
          · rename_i hq
            split at hg
            · rename_i t' e nl fr ys hrow
              simp at hg
              subst hg
              refine .pv _ _ _ (RP.of_row (hs.rows id _ hrow) (fun b hb => hkey _ b hb) (fun b hb => ?_))
              have hlt := hs.lt ⟨_, hrow, rfl⟩ hb
              have hk : kept := by
                show sa.any (SV.isKept bs) = true
                rw [List.any_eq_true]
                exact ⟨.ref id, List.mem_of_getElem? hx, by simp [SV.isKept, hq]⟩
              have hnt : ¬ tk b := by
                rintro ⟨q, id', h1, h2⟩
                have := hs.dist id id' b ⟨_, hrow, rfl⟩ (hblive q id' h1) hb h2
                subst this
                exact placeOf_none hq (List.mem_of_getElem? h1)
              exact ⟨hlt, fun hp => hnt (hbpriv b hp), fun _ => .inl (.inr ⟨hk, hlt, hnt⟩), fun e => by cases e⟩
            · rename_i t' e nl ys hrow
              simp at hg
              subst hg
              refine .pv _ _ _ (RP.of_tree (hs.rows id _ hrow) (fun b hb => ?_))
              have hlt := hs.lt ⟨_, hrow, rfl⟩ hb
              have hk : kept := by
                show sa.any (SV.isKept bs) = true
                rw [List.any_eq_true]
                exact ⟨.ref id, List.mem_of_getElem? hx, by simp [SV.isKept, hq]⟩
              have hnt : ¬ tk b := by
                rintro ⟨q, id', h1, h2⟩
                have := hs.dist id id' b ⟨_, hrow, rfl⟩ (hblive q id' h1) hb h2
                subst this
                exact placeOf_none hq (List.mem_of_getElem? h1)
              exact ⟨hlt, fun hp => hnt (hbpriv b hp), fun _ => .inl (.inr ⟨hk, hlt, hnt⟩), fun e => by cases e⟩
            · simp at hg
        | ptr id e i o b hid hbk =>
          simp only [argOfB] at hg
          split at hg
          · rename_i q hq
            simp at hg
            subst hg
            have hq2 := placeOf_some hq
            have : m id = bm q := by simp [bm, hq2]
            exact .ptr q e i o b (by show q < brows.length; rw [hblen]; exact (List.getElem?_eq_some_iff.1 hq2).1) (by rw [← this]; exact hbk)
          · simp at hg
        | ag vs us hl9 h9 h1 =>
          simp only [argOfB] at hg
          split at hg
          · rename_i ps hps
            simp at hg
            subst hg
            obtain ⟨g1, g2⟩ := argCells_get hps
            have hkey2 : ∀ (j : Nat) (p : PV) (u : Value), ps[j]? = some p → us[j]? = some u → RP w (Gd C' brows bm w false) p u ∧ p.isAgg = false := by
              intro j p u hp hu
              obtain ⟨c, hc, hcp⟩ := g2 j p hp
              refine argCell_ok hs (h9 j c u hc hu) hcp (h1 j u hu) (fun fr b hb => hkey fr b hb) (fun id b e hq hlv hb => ?_)
              subst e
              have hlt := hs.lt hlv hb
              have hk : kept := by
                show sa.any (SV.isKept bs) = true
                rw [List.any_eq_true]
                refine ⟨.ag vs, List.mem_of_getElem? hx, ?_⟩
                show vs.any (SV.isKept1 bs) = true
                rw [List.any_eq_true]
                exact ⟨.ref id, List.mem_of_getElem? hc, by simp [SV.isKept1, hq]⟩
              have hnt : ¬ tk b := by
                rintro ⟨q, id', h1, h2⟩
                have := hs.dist id id' b hlv (hblive q id' h1) hb h2
                subst this
                exact placeOf_none hq (List.mem_of_getElem? h1)
              exact ⟨hlt, fun hp => hnt (hbpriv b hp), fun _ => .inl (.inr ⟨hk, hlt, hnt⟩), fun e => by cases e⟩
            have hul : us.size = ps.length := by rw [hl9, g1]
            refine .pv _ _ _ (.agg ps us hul (fun j c hc => ?_) (fun j c u hc hu => (hkey2 j c u hc hu).1))
            have hj : j < us.size := by rw [hul]; exact (List.getElem?_eq_some_iff.1 hc).1
            exact (hkey2 j c _ hc (Array.getElem?_eq_getElem hj)).2
          · cases hg
        | _ => simp [argOfB] at hg
      · rw [List.getElem?_eq_none (by omega)]
        exact .any _ }
  refine (hsat C' bm va hblen.symm (fun b hb => hb.elim (fun h => h.1) (fun h => h.2.1)) (by simp [hlen]) hs0).mono ?_
  rintro e w' ⟨us, res, rows', m2, rfl, hus, hs', hR⟩
  obtain ⟨hbl, ⟨hnt, hbdd, hlv, hng⟩, hfr, hnx⟩ := next res rows' hR
  have hsz : w.heap.size ≤ w'.heap.size := hs'.hsz
  have hold : ∀ k, k < w.heap.size → ¬ tk k → w'.heap[k]? = w.heap[k]? := fun k hk hn => hs'.old k hk (fun q hq hbk => by
    have hq2 : bs[q]? = some bs[q] := List.getElem?_eq_getElem hq
    exact hn ⟨q, _, hq2, by simpa [C', bm, hq2] using hbk⟩)
  let N := s.rows.length
  let m3 : Nat → MV := fun j => if j < N then m j else m2 (j - N + bs.length)
  let nr := rowsAfter bs s.rows rows'
  have hm3 : ∀ j, j < N → m3 j = m j := fun j hj => by simp [m3, hj]
  have hm2b : ∀ (q id : Nat), bs[q]? = some id → m2 q = m id := by
    intro q id hq
    have := hs'.bor q (List.getElem?_eq_some_iff.1 hq).1
    rw [this]
    show bm q = m id
    simp [bm, hq]
  have hnrlen : nr.length = N + (rows'.length - bs.length) := by simp [nr, rowsAfter, N]
  have hnr1 : ∀ j, j < N → ∃ r0, s.rows[j]? = some r0 ∧ ((∃ q : Nat, bs[q]? = some j ∧ ∃ r', rows'[q]? = some r' ∧ nr[j]? = some r') ∨ (j ∉ bs ∧ nr[j]? = some r0)) := by
    intro j hj
    have h0 : s.rows[j]? = some s.rows[j] := List.getElem?_eq_getElem hj
    refine ⟨_, h0, ?_⟩
    have h1 : nr[j]? = some (match placeOf bs j with | some q => (rows'[q]?).getD .dead | none => s.rows[j]) := by
      simp only [nr, rowsAfter]
      rw [List.getElem?_append_left (by simp; exact hj)]
      simp [List.getElem?_mapIdx, h0]
      try (cases placeOf bs j <;> rfl)
    cases hp : placeOf bs j with
    | none => right; rw [hp] at h1; exact ⟨placeOf_none hp, h1⟩
    | some q =>
      left
      rw [hp] at h1
      have hq := placeOf_some hp
      have hq1 : q < rows'.length := Nat.lt_of_lt_of_le (List.getElem?_eq_some_iff.1 hq).1 hbl
      have hq2 : rows'[q]? = some rows'[q] := List.getElem?_eq_getElem hq1
      refine ⟨q, hq, _, hq2, ?_⟩
      rw [h1]
      show some ((rows'[q]?).getD Row.dead) = _
      rw [hq2]
      rfl
  have hnr2 : ∀ j, N ≤ j → nr[j]? = rows'[j - N + bs.length]? := by
    intro j hj
    simp only [nr, rowsAfter]
    rw [List.getElem?_append_right (by simp; exact hj)]
    simp only [List.length_mapIdx, List.getElem?_drop]
    congr 1
    omega
  have hnlive : ∀ j, j < N → liveAt nr j → liveAt s.rows j := by
    intro j hj ⟨r, hr, hl⟩
    obtain ⟨r0, h0, h | h⟩ := hnr1 j hj
    · obtain ⟨q, hq, _⟩ := h
      exact hblive q j hq
    · rw [h.2] at hr
      cases hr
      exact ⟨r, h0, hl⟩
  have hnew : ∀ j b, N ≤ j → liveAt nr j → (m3 j).S b → liveAt rows' (j - N + bs.length) ∧ (m2 (j - N + bs.length)).S b ∧ w.heap.size ≤ b := by
    intro j b hj ⟨r, hr, hl⟩ hbk
    rw [hnr2 j hj] at hr
    have e1 : m3 j = m2 (j - N + bs.length) := by simp [m3, Nat.not_lt.2 hj]
    rw [e1] at hbk
    exact ⟨⟨r, hr, hl⟩, hbk, hs'.newb _ b (by show bs.length ≤ _; omega) ⟨r, hr, hl⟩ hbk⟩
  have hG : ∀ f b, Gd C s.rows m w f b → Gd C nr m3 w' f b ∧ w'.heap[b]? = w.heap[b]? := by
    refine Gd.step tk hsz hold htk (fun b hlt ⟨j, hl, hbk⟩ => ?_)
    rcases Nat.lt_or_ge j N with hj | hj
    · rw [hm3 j hj] at hbk
      exact ⟨j, hnlive j hj hl, hbk⟩
    · have := (hnew j b hj hl hbk).2.2
      omega
  have hG2 : ∀ fl b, (fl = true ∨ ¬ kept) → Gd C' rows' m2 w' fl b → Gd C nr m3 w' fl b := by
    intro fl b hk hb
    have hnp : ¬ priv nr m3 b := by
      rintro ⟨j, hl, hbk⟩
      rcases Nat.lt_or_ge j N with hj | hj
      · obtain ⟨r0, h0, h | h⟩ := hnr1 j hj
        · obtain ⟨q, hq, r', hr', hn⟩ := h
          rw [hm3 j hj, ← hm2b q j hq] at hbk
          refine hb.2.1 ⟨q, ⟨r', hr', ?_⟩, hbk⟩
          rw [List.all_eq_true] at hlv
          refine hlv r' (List.mem_of_getElem? (i := q) ?_)
          rw [List.getElem?_take, if_pos (List.getElem?_eq_some_iff.1 hq).1]
          exact hr'
        · rw [hm3 j hj] at hbk
          have hpl : priv s.rows m b := ⟨j, hnlive j hj hl, hbk⟩
          have hlt := hs.lt (hnlive j hj hl) hbk
          cases fl with
          | true => have := (hb.2.2.2 rfl).1; change w.heap.size ≤ b at this; omega
          | false =>
            rcases hb.2.2.1 rfl with hA | hA
            · rcases hA with hA | hA
              · exact hA.2.1 hpl
              · rcases hk with hk | hk
                · cases hk
                · exact hk hA.1
            · change w.heap.size ≤ b at hA; omega
      · obtain ⟨h1, h2, _⟩ := hnew j b hj hl hbk
        exact hb.2.1 ⟨_, h1, h2⟩
    refine ⟨hb.1, hnp, fun e => ?_, fun e => ?_⟩
    · rcases hb.2.2.1 e with hA | hA
      · rcases hA with hA | hA
        · exact hA.2.2.1 rfl
        · rcases hk with hk | hk
          · rw [hk] at e; cases e
          · exact (hk hA.1).elim
      · exact .inr (Nat.le_trans hs.hsz hA)
    · have h4 := hb.2.2.2 e
      exact ⟨Nat.le_trans hs.hsz h4.1, h4.2⟩
  have hrowC : ∀ (q : Nat) (r : Row), rows'[q]? = some r → RowOK w' (Gd C nr m3 w') m3 nr.length (m2 q) r := by
    intro q r hr
    have h0 := hs'.rows q r hr
    have hfq : kept → r.fresh = true := by
      intro hk
      rcases hfr with h | h
      · have hk' : sa.any (SV.isKept bs) = true := hk
        rw [h] at hk'; cases hk'
      · have := h.2
        rw [List.all_eq_true] at this
        exact this r (List.mem_of_getElem? hr)
    have hbq : r.bdd 0 = true := by rw [List.all_eq_true] at hbdd; exact hbdd r (List.mem_of_getElem? hr)
    have hgq : r.noGh = true := by rw [List.all_eq_true] at hng; exact hng r (List.mem_of_getElem? hr)
    have hor : ∀ fl : Bool, (kept → fl = true) → (fl = true ∨ ¬ kept) := fun fl h => by
      by_cases hk : kept
      · exact .inl (h hk)
      · exact .inr hk
    change RowOK w' (Gd C' rows' m2 w') m2 rows'.length (m2 q) r at h0
    generalize m2 q = v at *
    cases h0 with
    | dead v => exact .dead v
    | own v t e nl fr xs vs hown h1 h2 hw hr' =>
      refine .own v t e nl fr xs vs hown h1 h2 hw (fun i x j c hx hc => ?_)
      obtain ⟨u, hu, hp⟩ := hr' i x j c hx hc
      exact ⟨u, hu, hp.mono fun b hb => ⟨hG2 fr b (hor fr hfq) hb, rfl⟩⟩
    | tree mv t e nl h xs vals Sf hown h1 h2 hw hr9 hd hn hz hS hkn => exact .tree _ t e nl h xs vals Sf hown h1 h2 hw hr9 hd hn hz hS hkn
    | mp b g es clock hbk hm' => exact .mp b g es clock hbk hm'
    | gh mv us cs hl h9 => cases hgq
    | var b t cs cur hb hl hr' h1 =>
      refine .var b t cs cur hb hl (fun j c u hc hu => ?_) h1
      have hv := hr' j c u hc hu
      have hcb : c.bdd 0 = true := by
        simp only [Row.bdd, List.all_eq_true] at hbq
        exact hbq c (List.mem_of_getElem? hc)
      have hcf : kept → c.fresh = true := by
        intro hk
        have := hfq hk
        simp only [Row.fresh, List.all_eq_true] at this
        exact this c (List.mem_of_getElem? hc)
      cases hv with
      | any v => exact .any _
      | val u => exact .val _
      | und => exact .und
      | pv fr p v hp =>
        cases hsc : p.scal with
        | true => exact .pv _ _ _ (hp.scal_any hsc)
        | false => exact .pv _ _ _ (hp.mono fun b hb => ⟨hG2 fr b (hor fr fun hk => by have := hcf hk; simpa [SV.fresh, hsc] using this) hb, rfl⟩)
      | ref i hi => simp [SV.bdd] at hcb
      | ptr i e' k o b' hi hbk => simp [SV.bdd] at hcb
      | adr fr cs' a' f' hsp hg h1' hc' hr2 =>
        by_cases hk : kept
        · have := hcf hk; simp [SV.fresh] at this
        · exact .adr fr cs' a' f' hsp (fun hne => hG2 fr _ (.inr hk) (hg hne)) h1' hc' (fun j c hj => (hr2 j c hj).mono fun b hb => ⟨hG2 fr b (.inr hk) hb, rfl⟩)
      | tup vs us' hl' h' => simp [SV.bdd] at hcb
      | sub i e' l h c' _ hid hs9 => simp [SV.bdd] at hcb
      | clo f ids us9 hl9 h9 => 
          have e9 : ids = [] := by
            cases ids with
            | nil => rfl
            | cons i ids => simp [SV.bdd] at hcb
          subst e9
          exact .clo f [] us9 hl9 (fun j i u h1 h2 => by simp at h1)
      | ag vs us' hl' h' h1' =>
        refine .ag vs us' hl' (fun q c u hc hu => ?_) h1'
        have hcb1 : c.bdd1 0 = true := by simp only [SV.bdd, List.all_eq_true] at hcb; exact hcb c (List.mem_of_getElem? hc)
        have hcf1 : kept → c.fresh1 = true := fun hk => by have := hcf hk; simp only [SV.fresh, List.all_eq_true] at this; exact this c (List.mem_of_getElem? hc)
        have hv := h' q c u hc hu
        cases hv with
        | any v => exact .any _
        | val u => exact .val _
        | und => exact .und
        | pv fr p v hp =>
          cases hsc : p.scal with
          | true => exact .pv _ _ _ (hp.scal_any hsc)
          | false => exact .pv _ _ _ (hp.mono fun b hb => ⟨hG2 fr b (hor fr fun hk => by have := hcf1 hk; simpa [SV.fresh1, hsc] using this) hb, rfl⟩)
        | ref i hi => simp [SV.bdd1] at hcb1
        | ptr i e' k o b' hi hbk => simp [SV.bdd1] at hcb1
        | adr fr cs' a' f' hsp hg h1' hc' hr2 =>
          by_cases hk : kept
          · have := hcf1 hk; simp [SV.fresh1] at this
          · exact .adr fr cs' a' f' hsp (fun hne => hG2 fr _ (.inr hk) (hg hne)) h1' hc' (fun j c hj => (hr2 j c hj).mono fun b hb => ⟨hG2 fr b (.inr hk) hb, rfl⟩)
        | tup vs us' hl' h' => simp [SV.bdd1] at hcb1
        | ag vs us' hl' h' h1' => simp [SV.bdd1] at hcb1
        | sub i e' l h c' _ hid hs9 => simp [SV.bdd1] at hcb1
        | clo f ids us9 hl9 h9 => 
          have e9 : ids = [] := by
            cases ids with
            | nil => rfl
            | cons i ids => simp [SV.bdd1] at hcb1
          subst e9
          exact .clo f [] us9 hl9 (fun j i u h1 h2 => by simp at h1)
  have hs2 : SimM C ⟨s.n, s.env, nr⟩ m3 a w' := {
    defs := hs.defs
    size := hs.size
    os := hs'.os.trans hs.os
    tape := hs'.tape.trans hs.tape
    output := hs'.output.trans hs.output
    hsz := Nat.le_trans hs.hsz hsz
    old := fun k hk hn => by
      refine (hold k (by have := hs.hsz; omega) ?_).trans (hs.old k hk hn)
      rintro ⟨q, id, h1, h2⟩
      by_cases hid : id < C.nb
      · exact hn id hid (by rw [← hs.bor id hid]; exact h2)
      · have := hs.newb id k (by omega) (hblive q id h1) h2; omega
    bor := fun id hid => by rw [hm3 id (by have := hs.nbl; show id < N; omega)]; exact hs.bor id hid
    nbl := by have := hs.nbl; show C.nb ≤ nr.length; rw [hnrlen]; show C.nb ≤ s.rows.length + _; omega
    newb := fun j b hj hl hbk => by
      rcases Nat.lt_or_ge j N with h | h
      · rw [hm3 j h] at hbk; exact hs.newb j b hj (hnlive j h hl) hbk
      · have := (hnew j b h hl hbk).2.2; have := hs.hsz; omega
    dist := fun i j b hi hj hbi hbj => by
      rcases Nat.lt_or_ge i N with h1 | h1 <;> rcases Nat.lt_or_ge j N with h2 | h2
      · rw [hm3 i h1] at hbi; rw [hm3 j h2] at hbj
        exact hs.dist i j b (hnlive i h1 hi) (hnlive j h2 hj) hbi hbj
      · rw [hm3 i h1] at hbi
        have e1 := hs.lt (hnlive i h1 hi) hbi
        have e2 := (hnew j b h2 hj hbj).2.2
        omega
      · rw [hm3 j h2] at hbj
        have e1 := hs.lt (hnlive j h2 hj) hbj
        have e2 := (hnew i b h1 hi hbi).2.2
        omega
      · obtain ⟨l1, b1, _⟩ := hnew i b h1 hi hbi
        obtain ⟨l2, b2, _⟩ := hnew j b h2 hj hbj
        have := hs'.dist _ _ b l1 l2 b1 b2
        omega
    rows := fun j r hr => by
      change nr[j]? = some r at hr
      show RowOK w' (Gd C nr m3 w') m3 nr.length (m3 j) r
      rcases Nat.lt_or_ge j N with h | h
      · rw [hm3 j h]
        obtain ⟨r0, h0, hh | hh⟩ := hnr1 j h
        · obtain ⟨q, hq, r', hr', hn⟩ := hh
          rw [hn] at hr
          cases hr
          rw [← hm2b q j hq]
          exact hrowC q r hr'
        · rw [hh.2] at hr
          cases hr
          refine RowOK.mono hG (by rw [hnrlen]; exact Nat.le_add_right _ _) (fun id hid => hm3 id hid) (hs.rows j r h0) (fun hl b hb => hold b (hs.lt ⟨r, h0, hl⟩ hb) ?_)
          rintro ⟨q, id, h1, h2⟩
          have := hs.dist j id b ⟨r, h0, hl⟩ (hblive q id h1) hb h2
          subst this
          exact hh.1 (List.mem_of_getElem? h1)
      · rw [hnr2 j h] at hr
        have e1 : m3 j = m2 (j - N + bs.length) := by simp [m3, Nat.not_lt.2 h]
        rw [e1]
        exact hrowC _ r hr
    env := fun u => by
      refine (hs.env u).mono hG ?_ (fun id hid => hm3 id hid)
      show s.rows.length ≤ nr.length
      rw [hnrlen]
      exact Nat.le_add_right _ _ }
  have hres : ∀ (j : Nat) (r : SV), res[j]? = some r → RS w' (Gd C nr m3 w') m3 nr.length (r.shift bs N) (us.getD j undef) := by
    intro j r hj
    have hv := hs'.env j
    change RS w' _ _ _ (look (enumE 0 res) j) (us.getD j undef) at hv
    rw [look_enumE] at hv
    simp only [Nat.zero_le, if_true, Nat.sub_zero, hj, Option.getD_some] at hv
    have hrf : kept → r.fresh = true := by
      intro hk
      rcases hfr with h | h
      · have hk' : sa.any (SV.isKept bs) = true := hk
        rw [h] at hk'; cases hk'
      · have := h.1
        rw [List.all_eq_true] at this
        exact this r (List.mem_of_getElem? hj)
    have hrt : r.noTup = true := by rw [List.all_eq_true] at hnt; exact hnt r (List.mem_of_getElem? hj)
    have hidx : ∀ i, i < rows'.length → ∃ i', i' < nr.length ∧ m3 i' = m2 i ∧ (match bs[i]? with | some b => b | none => i - bs.length + N) = i' := by
      intro i hi
      cases hbi : bs[i]? with
      | some b =>
        have hbN : b < N := by
          obtain ⟨r, hr, _⟩ := hblive i b hbi
          exact (List.getElem?_eq_some_iff.1 hr).1
        exact ⟨b, by rw [hnrlen]; omega, by rw [hm3 b hbN]; exact (hm2b i b hbi).symm, rfl⟩
      | none =>
        have hge : bs.length ≤ i := by simpa using hbi
        refine ⟨i - bs.length + N, by rw [hnrlen]; omega, ?_, rfl⟩
        simp only [m3]
        rw [if_neg (by omega)]
        congr 1
        omega
    generalize us.getD j undef = v at *
    cases hv with
    | any v => exact .any _
    | val u => exact .any _
    | und => exact .any _
    | pv fr p v hp =>
      simp only [SV.shift]
      cases hsc : p.scal with
      | true => exact .pv _ _ _ (hp.scal_any hsc)
      | false =>
        refine .pv _ _ _ (hp.mono fun b hb => ⟨hG2 fr b ?_ hb, rfl⟩)
        by_cases hk : kept
        · left; have := hrf hk; simpa [SV.fresh, hsc] using this
        · exact .inr hk
    | ref i hi =>
      obtain ⟨i', h1, h2, h3⟩ := hidx i hi
      have e : SV.shift bs N (.ref i) = .ref i' := by
        simp only [SV.shift]
        cases hbi : bs[i]? <;> rw [hbi] at h3 <;> simp_all
      rw [e, ← h2]
      exact .ref i' h1
    | ptr i e k o b hi hbk =>
      obtain ⟨i', h1, h2, h3⟩ := hidx i hi
      have e : SV.shift bs N (.ptr i e k o) = .ptr i' e k o := by
        simp only [SV.shift]
        cases hbi : bs[i]? <;> rw [hbi] at h3 <;> simp_all
      rw [e]
      exact .ptr i' _ _ _ b h1 (by rw [h2]; exact hbk)
    | adr fr cs' a' f' hsp hg h1' hc' hr2 => exact .any _
    | tup vs us' hl' h' => simp [SV.noTup] at hrt
    | sub i e' l h c' _ hid hs9 => exact .any _
    | clo => exact .any _
    | ag vs us' hl' h' h1' =>
      refine .ag _ us' (by simpa using hl') (fun q c u hc hu => ?_) h1'
      simp only [List.getElem?_map, Option.map_eq_some_iff] at hc
      obtain ⟨c', hc', rfl⟩ := hc
      have hcf1 : kept → c'.fresh1 = true := fun hk => by have := hrf hk; simp only [SV.fresh, List.all_eq_true] at this; exact this c' (List.mem_of_getElem? hc')
      have hv := h' q c' u hc' hu
      cases hv with
      | pv fr p v hp =>
        simp only [SV.shift1]
        cases hsc : p.scal with
        | true => exact .pv _ _ _ (hp.scal_any hsc)
        | false =>
          refine .pv _ _ _ (hp.mono fun b hb => ⟨hG2 fr b ?_ hb, rfl⟩)
          by_cases hk : kept
          · left; have := hcf1 hk; simpa [SV.fresh1, hsc] using this
          · exact .inr hk
      | ref i hi =>
        obtain ⟨i', h1, h2, h3⟩ := hidx i hi
        have e : SV.shift1 bs N (.ref i) = .ref i' := by
          simp only [SV.shift1]
          cases hbi : bs[i]? <;> rw [hbi] at h3 <;> simp_all
        rw [e, ← h2]
        exact .ref i' h1
      | _ => exact .any _
  have hput := hs2.put (blt_lt ht) (sv := packS (res.map (SV.shift bs N))) (v := pack us) (by
    match res, hus, hres with
    | [], hus, _ =>
      have : us = #[] := Array.eq_empty_of_size_eq_zero (by simpa using hus)
      subst this
      exact .tup _ _ rfl (fun j c v hc => by simp at hc)
    | [r], hus, hres =>
      have h1 : us.size = 1 := by simpa using hus
      have := hres 0 r rfl
      simp only [packS, pack, h1, dif_pos, List.map_cons, List.map_nil]
      simpa [Array.getD, h1] using this
    | r1 :: r2 :: rs, hus, hres =>
      have h1 : us.size ≠ 1 := by rw [hus]; simp
      simp only [packS, pack, h1, dif_neg, not_false_iff, List.map_cons]
      refine .tup _ _ (by rw [hus]; simp) (fun j c v hc hv => ?_)
      have hc2 : ((r1 :: r2 :: rs).map (SV.shift bs N))[j]? = some c := by simpa using hc
      simp only [List.getElem?_map, Option.map_eq_some_iff] at hc2
      obtain ⟨c', hc', rfl⟩ := hc2
      have := hres j c' hc'
      have e : us.getD j undef = v := by
        rw [Array.getElem?_eq_some_iff] at hv
        obtain ⟨hlt, e⟩ := hv
        simp [Array.getD, hlt, e]
      rw [e] at this
      exact this)
  exact hnx _ _ _ hput hsz (fun k hk hn => hold k hk (fun ⟨q, id, h1, h2⟩ => hn q id h1 h2))

end
end Go.Vl

namespace Go.Vl
open Go.RowKit
section
variable {P : Program} {C : Ctx} {Q : Go.Exit → St → Prop} {s : St} {ops : Array Oper} {rest : List Oper} {t : Nat} {ty : TypeId} {pos : String} {af : Array Edge}

/-- Which function a method is, for a dynamic type; and what it is given. -/
def MethAt (P : Program) (T : TypeId) (name : String) (p : PV) (F : FuncId) (q : PV) : Prop :=
  ∀ (w : World) (G : Nat → Prop) (v : Value), RP w G p v → ∃ r, (Go.method (P.types.size + Made.depth) T v name).run P w = .ok (F, r) w ∧ RP w G q r

end
end Go.Vl

/- Function values that hold pointers to variables: made, and called. -/
namespace Go.Vl
set_option linter.unusedVariables false
set_option linter.unusedSimpArgs false
open Go.RowKit
section
variable {P : Program} {C : Ctx} {Q : Go.Exit → St → Prop} {s : St} {ops : Array Oper} {rest : List Oper} {t : Nat} {ty : TypeId} {pos : String} {af : Array Edge}

/-- A function literal: its value holds pointers to the variables that it captures. -/
theorem vo_makeFunc {f : FuncId} {xs : Array Operand} {ids : List Nat} (ht : Nat.blt t s.n = true)
    (hx : xs.toList.map (getO s.env) = ids.map fun i => SV.ptr i 0 0 0)
    (next : VO P C ops rest Q (s.put t (.clo f ids))) : VO P C ops (⟨some t, .makeFunc (.func f) #[] xs, ty, pos, af, none⟩ :: rest) Q s := by
  have hlen : xs.size = ids.length := by have := congrArg List.length hx; simpa using this
  refine vo_value (s1 := s) (sv := .clo f ids) ht (fun m a w hs => ⟨.func (.func f) #[] (xs.map a.eval), w, m, by simp [execOp, Instr.makeFunc], hs, .clo f ids _ (by simp [hlen]) (fun j i u h1 h2 => ?_)⟩) next
  simp only [Array.getElem?_map, Option.map_eq_some_iff] at h2
  obtain ⟨o, ho, rfl⟩ := h2
  have h3 : (xs.toList.map (getO s.env))[j]? = some (getO s.env o) := by simp [ho]
  rw [hx] at h3
  simp only [List.getElem?_map, h1, Option.map_some, Option.some.injEq] at h3
  have hv := hs.get o
  rw [← h3] at hv
  generalize a.eval o = v at hv
  cases hv with
  | ptr _ _ _ _ b hid hb => exact ⟨hid, b, hb, by simp⟩

theorem run_callF {F : FuncId} {fn : Func} {a : Act} {w : World} {g : Operand} {us : Array Value} {xs : Array Operand} {Ts : Array TypeId} {gd : Option (Nat × Bool)} (hf : P.funcs[F]? = some fn) (hnm : (fn.name == "runtime.NumGoroutine") = false)
    (hbd : fn.body.isNone = false) (hv : a.eval g = .func (.func F) #[] us) (dst : Option Tmp) :
    (execOp a.eval ⟨dst, .call ⟨.value g, xs, Ts⟩, ty, pos, af, gd⟩).run P w = .ok (.enter F (xs.map a.eval ++ us)) w := by
  have h1 : ¬ (fn.name = "runtime.NumGoroutine") := by simpa using hnm
  have h2 : ¬ (fn.body = none) := by intro e; rw [e] at hbd; cases hbd
  have hc : ∀ args, (callFunc F args).run P w = .ok (.enter F args) w := fun args => by simp [callFunc, hf, h1, h2]
  have hres : (resolve a.eval ⟨.value g, xs, Ts⟩ ty).run P w = .ok { target := .fn (.func F) us, args := xs.map a.eval } w := by
    unfold resolve
    simp [hv, Deferred.ofValue]
  simp only [execOp, Sem.run_bind, hres, Result.andThen_ok]
  exact hc _

/-- A call of a function value that holds pointers to variables: they come behind the arguments. -/
theorem vo_callF {g : Operand} {xs : Array Operand} {Ts : Array TypeId} {F : FuncId} {ids : List Nat} {fn : Func} {args : List SV} {R : List SV → List Row → Prop} (bs : List Nat) {brows : List Row}
    (hg : getO s.env g = .clo F ids) (hf : P.funcs[F]? = some fn) (hnm : (fn.name == "runtime.NumGoroutine") = false) (hbd : fn.body.isNone = false) (ht : Nat.blt t s.n = true)
    (hb1 : bs.map (fun id => (s.rows[id]?).map Row.toArg) = brows.map some) (hb2 : brows.all Row.live = true) (hb3 : bs.map (placeOf bs) = (List.range bs.length).map some)
    (hargs : (xs.toList.map (getO s.env) ++ ids.map fun i => SV.ptr i 0 0 0).mapM (argOfB bs s.rows) = some args) (hsat : SatAt P F args brows R)
    (next : ∀ res rows', R res rows' → bs.length ≤ rows'.length ∧ (res.all SV.noTup = true ∧ rows'.all (Row.bdd 0) = true ∧ (rows'.take bs.length).all Row.live = true ∧ rows'.all Row.noGh = true) ∧
      (((xs.toList.map (getO s.env) ++ ids.map fun i => SV.ptr i 0 0 0).any (SV.isKept bs) = false) ∨ (res.all SV.fresh = true ∧ rows'.all Row.fresh = true)) ∧
      VO P C ops rest Q ⟨s.n, (t, packS (res.map (SV.shift bs s.rows.length))) :: s.env, rowsAfter bs s.rows rows'⟩) :
    VO P C ops (⟨some t, .call ⟨.value g, xs, Ts⟩, ty, pos, af, none⟩ :: rest) Q s := by
  intro a w ⟨m, hs⟩
  refine wpList_plain rfl fun K hK => ?_
  have hv := hs.get g
  rw [hg] at hv
  obtain ⟨us, hva, hul, hus⟩ : ∃ us : Array Value, a.eval g = .func (.func F) #[] us ∧ us.size = ids.length ∧ ∀ (j i : Nat) (u : Value), ids[j]? = some i → us[j]? = some u → i < s.rows.length ∧ ∃ b, blk (m i).v = some b ∧ u = .pointer (some ⟨b, 0, none⟩) := by
    generalize a.eval g = x at hv
    cases hv with
    | clo _ _ us hl h => exact ⟨us, rfl, hl, h⟩
  refine ow_callA (sa := xs.toList.map (getO s.env) ++ ids.map fun i => SV.ptr i 0 0 0) bs hs (run_callF hf hnm hbd hva (some t)) (by simp [hul]) (fun u x hu => ?_) ht hb1 hb2 hb3 hargs hsat
    (fun res rows' hR => let ⟨h1, h2, h3, h4⟩ := next res rows' hR; ⟨h1, h2, h3, fun m' a' w' hs' _ _ => hK _ _ (h4 _ _ ⟨m', hs'⟩)⟩)
  rcases Nat.lt_or_ge u xs.size with hlt | hge
  · rw [List.getElem?_append_left (by simpa using hlt)] at hu
    simp only [List.getElem?_map, Option.map_eq_some_iff] at hu
    obtain ⟨o, ho, rfl⟩ := hu
    have ho' : xs[u]? = some o := by simpa using ho
    have e : (xs.map a.eval ++ us).getD u undef = a.eval o := by
      have e1 : (xs.map a.eval ++ us)[u]? = some (a.eval o) := by
        rw [Array.getElem?_append_left (by simpa using hlt)]
        simp [ho']
      rw [Array.getD_eq_getD_getElem?, e1]; rfl
    rw [e]
    exact hs.get o
  · rw [List.getElem?_append_right (by simpa using hge)] at hu
    simp only [List.length_map, Array.length_toList, List.getElem?_map, Option.map_eq_some_iff] at hu
    obtain ⟨i, hi, rfl⟩ := hu
    have hj : u - xs.size < us.size := by rw [hul]; exact (List.getElem?_eq_some_iff.1 hi).1
    obtain ⟨hid, b, hb, hbe⟩ := hus _ _ _ hi (Array.getElem?_eq_getElem hj)
    have e : (xs.map a.eval ++ us).getD u undef = us[u - xs.size] := by
      have e1 : (xs.map a.eval ++ us)[u]? = some us[u - xs.size] := by
        rw [Array.getElem?_append_right (by simpa using hge)]
        simp [Array.getElem?_eq_getElem hj]
      rw [Array.getD_eq_getD_getElem?, e1]; rfl
    rw [e, hbe]
    have := RS.ptr (w := w) (G := Gd C s.rows m w) (m := m) (N := s.rows.length) i 0 0 0 b hid hb
    simpa using this
end
end Go.Vl

/- Rows of numbers sorted and made compact by the library. -/
namespace Go.Vl
set_option linter.unusedVariables false
set_option linter.unusedSimpArgs false
open Go.RowKit Go.Sort Go.Proofs

structure SortC (P : Program) (f : FuncId) : Prop where
  some : ∀ (blk off cap : Nat) (zs : List Int) (w : World), Holds (Value.int .i64) w blk off zs.toArray → blk < w.heap.size → zs.length < 4611686018427387904 →
    Calls P f #[.slice (some ⟨blk, off, none⟩) zs.length cap] w fun e w' => e = .returned (.tuple #[]) ∧ ∃ n os, w' = grow (putRow (Value.int .i64) (Sort.ahead w n) blk off (zs.mergeSort fun x y => decide (x ≤ y)).toArray) os
  none : ∀ (a : Option Addr) (cap : Nat) (w : World), Calls P f #[.slice a 0 cap] w fun e w' => e = .returned (.tuple #[]) ∧ w' = w
structure CompactC (P : Program) (f : FuncId) : Prop where
  some : ∀ (blk off cap : Nat) (zs : List Int) (w : World), Holds (Value.int .i64) w blk off zs.toArray → zs.length ≤ 9223372036854775807 → zs.length ≤ cap →
    Calls P f #[.slice (some ⟨blk, off, none⟩) zs.length cap] w fun e w' => e = .returned (.slice (some ⟨blk, off, none⟩) (Lib.compact zs).length cap) ∧ ∃ q, w' = putRow (Value.int .i64) (Sort.ahead w q) blk off (Lib.compact zs ++ List.replicate (zs.length - (Lib.compact zs).length) 0).toArray
  none : ∀ (a : Option Addr) (cap : Nat) (w : World), Calls P f #[.slice a 0 cap] w fun e w' => e = .returned (.slice a 0 cap) ∧ w' = w

def srt (l : List Int) : List Int := l.mergeSort fun x y => decide (x ≤ y)

end Go.Vl

namespace Go.Vl
set_option linter.unusedVariables false
set_option linter.unusedSimpArgs false
open Go.Proofs
open Go.Proofs
theorem opn_int : Opens Try.prog 3 1 intP i64R := opens_int Try.underlying3
theorem opn_ints : Opens Try.prog 24 1 (fun l : List Int => .sl none 1 (l.map intP)) (fun l => l.length ≤ 9223372036854775807 ∧ ∀ a ∈ l, i64R a) := opens_slice (P := Try.prog) Try.underlying24 (show Try.prog.cellsOf 3 = 1 by kernel_rfl) (by decide) opn_int
theorem opn_intss : Opens Try.prog 23 1 (fun l : List (List Int) => .sl none 1 (l.map ints)) (fun l => l.length ≤ 9223372036854775807 ∧ ∀ a ∈ l, (a.length ≤ 9223372036854775807 ∧ ∀ x ∈ a, i64R x)) := opens_slice (P := Try.prog) Try.underlying23 (show Try.prog.cellsOf 24 = 1 by kernel_rfl) (by decide) opn_ints
theorem opn_lreg : Opens Try.prog 87 2 pairP (fun _ => True) := by
  have h := opens_struct (P := Try.prog) (t := 87) Try.underlying87 (by kernel_rfl) (openF_cons opn_int rfl (show Try.prog.cellsOf 3 = 1 by kernel_rfl) (openF_cons opn_int rfl (show Try.prog.cellsOf 3 = 1 by kernel_rfl) openF_nil))
  exact opens_map h (fun a => (a.1, a.2.1)) (fun _ => rfl) (fun _ _ => trivial)
theorem opn_lregs : Opens Try.prog 48 1 (fun l : List (Int × Int) => .sl none 2 (l.map pairP)) (fun l => l.length ≤ 9223372036854775807 ∧ ∀ a ∈ l, True) := opens_slice (P := Try.prog) Try.underlying48 (show Try.prog.cellsOf 87 = 2 by kernel_rfl) (by decide) opn_lreg
def okReg (n : Nat) (p : Int × Int) : Prop := (0 ≤ p.1 ∧ p.1 ≤ (n : Int) - 1) ∧ 0 ≤ p.2 ∧ p.2 ≤ (n : Int) - 1
def VRegs (b : List (List Int)) (r : List (Int × Int)) : Prop := VB b ∧ r.length ≤ 8 ∧ ∀ p ∈ r, okReg b.length p
instance (n : Nat) (p : Int × Int) : Decidable (okReg n p) := by unfold okReg; infer_instance
instance (b : List (List Int)) (r : List (Int × Int)) : Decidable (VRegs b r) := by unfold VRegs; infer_instance
theorem okReg_succ {n : Nat} {r : List (Int × Int)} {k : Nat} (hk : k < r.length) (h : ∀ p ∈ r.take k, okReg n p) (h2 : okReg n (r.getD k (0, 0))) : ∀ p ∈ r.take (k + 1), okReg n p := by
  intro p hp
  rw [List.take_add_one, List.getElem?_eq_getElem hk] at hp
  rcases List.mem_append.1 hp with h9 | h9
  · exact h p h9
  · simp only [Option.toList_some, List.mem_singleton] at h9
    rw [List.getD, List.getElem?_eq_getElem hk] at h2
    rw [h9]; exact h2
theorem okReg_at {n : Nat} {r : List (Int × Int)} {k : Nat} (hk : k < r.length) (h : ∀ p ∈ r, okReg n p) : okReg n (r.getD k (0, 0)) := h _ (getD_mem hk (0, 0))
theorem upto2 {a b m : Int} : (∀ x ∈ [a, b], 0 ≤ x ∧ x ≤ m) ↔ (0 ≤ a ∧ a ≤ m) ∧ 0 ≤ b ∧ b ≤ m := by simp
def selI (p : Int → Bool) (k : Nat) : List Int := ((List.range k).map fun i : Nat => (i : Int)).filter p
theorem selI_mem {p : Int → Bool} {k : Nat} {n : Int} : n ∈ selI p k ↔ p n = true ∧ 0 ≤ n ∧ n < k := by
  unfold selI
  rw [List.mem_filter, List.mem_map]
  constructor
  · rintro ⟨⟨i, hi, rfl⟩, h⟩; have := List.mem_range.1 hi; exact ⟨h, by omega, by omega⟩
  · rintro ⟨h, h0, h1⟩; exact ⟨⟨n.toNat, List.mem_range.2 (by omega), by omega⟩, h⟩
theorem selI_asc (p : Int → Bool) (k : Nat) : (selI p k).Pairwise (· < ·) := by
  unfold selI
  refine List.Pairwise.filter _ ?_
  rw [List.pairwise_map]
  exact List.pairwise_lt_range.imp fun h => by omega
/-- Ascending lists with the same numbers are equal. -/
theorem asc_ext : ∀ {a b : List Int}, a.Pairwise (· < ·) → b.Pairwise (· < ·) → (∀ n, n ∈ a ↔ n ∈ b) → a = b
  | [], [], _, _, _ => rfl
  | [], y :: b, _, _, h => by have := (h y).2 (by simp); cases this
  | x :: a, [], _, _, h => by have := (h x).1 (by simp); cases this
  | x :: a, y :: b, ha, hb, h => by
    have ha1 := List.pairwise_cons.1 ha
    have hb1 := List.pairwise_cons.1 hb
    have hxy : x = y := by
      rcases List.mem_cons.1 ((h x).1 (by simp)) with e | hx
      · exact e
      · rcases List.mem_cons.1 ((h y).2 (by simp)) with e | hy
        · exact e.symm
        · have := ha1.1 y hy; have := hb1.1 x hx; omega
    subst hxy
    have : a = b := asc_ext ha1.2 hb1.2 fun n => by
      constructor
      · intro hn
        rcases List.mem_cons.1 ((h n).1 (by simp [hn])) with e | hn2
        · have := ha1.1 n hn; omega
        · exact hn2
      · intro hn
        rcases List.mem_cons.1 ((h n).2 (by simp [hn])) with e | hn2
        · have := hb1.1 n hn; omega
        · exact hn2
    rw [this]
theorem srt_pair (l : List Int) : (srt l).Pairwise (· ≤ ·) := by
  have := List.pairwise_mergeSort (le := fun x y : Int => decide (x ≤ y)) (fun a b c h1 h2 => by simp only [decide_eq_true_eq] at *; omega) (fun a b => by simp only [Bool.or_eq_true, decide_eq_true_eq]; omega) l
  exact this.imp fun h => by simpa using h
theorem srt_mem (l : List Int) (x : Int) : x ∈ srt l ↔ x ∈ l := (List.mergeSort_perm l _).mem_iff
/-- What one step up leads to. -/
def upM (b : List (List Int)) (r : List (Int × Int)) (c : Int) : List Int := b.getD c.toNat [] ++ (r.filter fun p => decide (p.1 = c)).map Prod.snd
theorem take_oneR {l : List (Int × Int)} {k : Nat} (h : k < l.length) : l.take (k+1) = l.take k ++ [l.getD k (0, 0)] := by rw [List.take_add_one, List.getD, List.getElem?_eq_getElem h]; rfl
theorem upM_nil (b : List (List Int)) (c : Int) : upM b [] c = b.getD c.toNat [] := by simp [upM]
theorem onceF_app : ∀ (l acc m : List Int), onceF acc (l ++ m) = onceF (onceF acc l) m
  | [], _, _ => rfl
  | x :: l, acc, m => by
    simp only [List.cons_append, onceF]
    split <;> exact onceF_app l _ m
theorem onceF_nodup : ∀ {l acc : List Int}, (acc ++ l).Nodup → onceF acc l = acc ++ l
  | [], _, _ => by simp [onceF]
  | x :: l, acc, h => by
    have hx : x ∉ acc := fun hx => by
      have := (List.nodup_append.1 h).2.2 x hx x (by simp)
      exact this rfl
    simp only [onceF, if_neg hx]
    rw [onceF_nodup (by simpa using h)]
    simp
/-- One more class goes on. -/
def grow1 (next : Int → List Int) (met : List Int) (i : Nat) : List Int := onceF met (next (met.getD i 0))
def growM (next : Int → List Int) : Nat → List Int → Nat → List Int
  | 0, met, _ => met
  | f + 1, met, i => if i < met.length then growM next f (grow1 next met i) (i + 1) else met
theorem growM_end {next : Int → List Int} {f i : Nat} {met : List Int} (h : met.length ≤ i) : growM next f met i = met := by
  cases f with
  | zero => rfl
  | succ f => unfold growM; rw [if_neg (by omega)]
theorem growM_step {next : Int → List Int} {f i : Nat} {met : List Int} (h : i < met.length) (hf : i < f) : growM next (f - i) met i = growM next (f - (i + 1)) (grow1 next met i) (i + 1) := by
  obtain ⟨g, hg⟩ : ∃ g, f - i = g + 1 := ⟨f - i - 1, by omega⟩
  rw [hg, show f - (i + 1) = g by omega]
  simp only [growM, if_pos h]
/-- Classes that are met: each once, all there. -/
def MetOK (n : Nat) (met : List Int) : Prop := met.Nodup ∧ ∀ x ∈ met, 0 ≤ x ∧ x < n
theorem MetOK.len {n : Nat} {met : List Int} (h : MetOK n met) : met.length ≤ n := pig n met h.1 h.2
theorem metOK_once {n : Nat} : ∀ {l acc : List Int}, MetOK n acc → (∀ x ∈ l, 0 ≤ x ∧ x < n) → MetOK n (onceF acc l) ∧ acc.length ≤ (onceF acc l).length
  | [], acc, h, _ => ⟨h, Nat.le_refl _⟩
  | x :: l, acc, h, hl => by
    simp only [onceF]
    split
    · exact metOK_once h fun y hy => hl y (by simp [hy])
    · rename_i hx
      have h2 : MetOK n (acc ++ [x]) := ⟨List.nodup_append.2 ⟨h.1, by simp, fun a ha b hb e => hx (by rw [List.mem_singleton.1 hb] at e; rw [← e]; exact ha)⟩, fun y hy => by
        rcases List.mem_append.1 hy with h3 | h3
        · exact h.2 y h3
        · rw [List.mem_singleton.1 h3]; exact hl x (by simp)⟩
      have h3 := metOK_once (l := l) h2 fun y hy => hl y (List.mem_cons_of_mem _ hy)
      exact ⟨h3.1, by have := h3.2; rw [List.length_append] at this; omega⟩
theorem upM_in {b : List (List Int)} {r : List (Int × Int)} (h : VRegs b r) {c : Int} (h0 : 0 ≤ c) (h1 : c < b.length) : ∀ x ∈ upM b r c, 0 ≤ x ∧ x < (b.length : Int) := by
  intro x hx
  unfold upM at hx
  rcases List.mem_append.1 hx with h3 | h3
  · have := (h.1.at (show c.toNat < b.length by omega)).2.2 x h3
    omega
  · obtain ⟨p, hp, rfl⟩ := List.mem_map.1 h3
    have := h.2.2 p (List.mem_filter.1 hp).1
    unfold okReg at this
    omega
def hasRC (b : List (List Int)) (r : List (Int × Int)) (l : List Int) : Prop := VRegs b r ∧ ∀ x ∈ l, 0 ≤ x ∧ x ≤ (b.length : Int) - 1
instance (b : List (List Int)) (r : List (Int × Int)) (l : List Int) : Decidable (hasRC b r l) := by unfold hasRC; infer_instance
def metU (b : List (List Int)) (r : List (Int × Int)) (c : Int) : List Int := growM (upM b r) 13 [c] 0
def supM (b : List (List Int)) (r : List (Int × Int)) (c : Int) : List Int := if hasRC b r [c] then srt (metU b r c) else []
theorem met_one {n : Nat} {c : Int} (h0 : 0 ≤ c) (h1 : c < n) : MetOK n [c] := ⟨by simp, fun x hx => by rw [List.mem_singleton.1 hx]; exact ⟨h0, h1⟩⟩
theorem grow_step {b : List (List Int)} {r : List (Int × Int)} (h : VRegs b r) {met : List Int} {i : Nat} (hm : MetOK b.length met) (hi : i < met.length) : MetOK b.length (grow1 (upM b r) met i) ∧ met.length ≤ (grow1 (upM b r) met i).length := by
  have hx := hm.2 _ (getD_mem hi 0)
  exact metOK_once hm (upM_in h hx.1 hx.2)
theorem once_grow {next : Int → List Int} {met : List Int} {i : Nat} (h : met.Nodup) : onceF [] (met ++ next (met.getD i 0)) = grow1 next met i := by
  rw [onceF_app, onceF_nodup (l := met) (acc := []) (by simpa using h)]; rfl

theorem szRegS_sat {nl0 : Option Bool} {a : List (Int × Int)} {left : Int}  (ha : a.length ≤ 9223372036854775807) (hl : 0 ≤ left ∧ left ≤ 2000000) : SatAt Try.prog 38 [.pv false (.sl nl0 2 (a.map pairP)), i64 left] [] (fun res rows => res = [i64 (if left - (a.length : Int) < 0 then -1 else left - (a.length : Int))] ∧ rows = []) := by
 refine sat_entry_G (rs := [(4, none)]) Try.func38 rfl rfl (Nat.le_of_ble_eq_true rfl) (Nat.le_of_ble_eq_true rfl) (resTs1 trivial) fun C hC => ?_
 rw [Try.ntmps38]
 replace hC : C.nb = 0 := hC
 refine vc_seq fun K1 hK1 => ?_
 refine vc_region ?_
 refine vo_assign_pv rfl rfl ?_
 refine vo_nil ?_
 refine hK1 _ ?_
 refine vc_seq fun K2 hK2 => ?_
 refine vc_region ?_
 refine vo_move_pv rfl rfl ?_
 refine vo_move_pv rfl rfl ?_
 refine vo_len_pv rfl rfl Try.underlying48 ?_
 refine vo_binI rfl rfl rfl rfl sd ?_
 refine vo_assign_pv rfl rfl ?_
 refine vo_nil ?_
 refine hK2 _ ?_
 refine vc_seq fun K3 hK3 => ?_
 refine vc_seq fun K4 hK4 => ?_
 refine vc_region ?_
 refine vo_move_pv rfl rfl ?_
 refine vo_binI rfl rfl rfl rfl trivial ?_
 refine vo_nil ?_
 refine hK4 _ ?_
 refine vc_cond rfl (fun hc1 => ?_) (fun hc1 => ?_)
 ·try simp only [zq0, zq1, zq2, zq3, zq4, zq5, zq6, zq7, zq8, zq9, zqa, zqb, zqc, zqd, zqe, zqf] at hc1
  refine vc_seq fun K5 hK5 => ?_
  refine vc_region ?_
  refine vo_assign_pv rfl rfl ?_
  refine vo_nil ?_
  refine hK5 _ ?_
  refine vc_ret ?_
  change retQ _ _ _ _ _
  refine retQ_sel [] (srows := []) (.inr rfl) hC rfl rfl rfl rfl rfl rfl rfl ?_
  refine ⟨?_, rfl⟩
  refine (congrArg (fun b => [i64 b]) (?_ : _ = _) : [i64 _] = [i64 _])
  rw [if_pos (by omega)]
 ·try simp only [zq0, zq1, zq2, zq3, zq4, zq5, zq6, zq7, zq8, zq9, zqa, zqb, zqc, zqd, zqe, zqf] at hc1
  refine vc_skip ?_
  refine hK3 _ ?_
  refine vc_seq fun K6 hK6 => ?_
  refine vc_region ?_
  refine vo_move_pv rfl rfl ?_
  refine vo_assign_pv rfl rfl ?_
  refine vo_nil ?_
  refine hK6 _ ?_
  refine vc_ret ?_
  change retQ _ _ _ _ _
  refine retQ_sel [] (srows := []) (.inr rfl) hC rfl rfl rfl rfl rfl rfl rfl ?_
  refine ⟨?_, rfl⟩
  refine (congrArg (fun b => [i64 b]) (?_ : _ = _) : [i64 _] = [i64 _])
  simp only [List.length_map]; rw [if_neg (by omega)]


theorem toReg_sat {a : Int × Int}   : SatAt Try.prog 78 [.pv false (pairP a)] [] (fun res rows => res = [.pv true (pairP a)] ∧ rows = []) := by
 refine sat_entry_G (rs := [(2, some (85, 2))]) Try.func78 rfl rfl (Nat.le_of_ble_eq_true rfl) (Nat.le_of_ble_eq_true rfl) (resTs1 ⟨_, _, Try.underlying85, rfl, inf85, sz85⟩) fun C hC => ?_
 rw [Try.ntmps78]
 replace hC : C.nb = 0 := hC
 refine vc_seq fun K1 hK1 => ?_
 refine vc_region ?_
 refine vo_box rfl rfl ?_
 refine vo_stM ?_
 refine vo_alloc Z85 rfl ?_
 refine vo_stM ?_
 refine vo_nil ?_
 refine hK1 _ ?_
 refine vc_seq fun K2 hK2 => ?_
 refine vc_region ?_
 refine vo_alloc Z85 rfl ?_
 refine vo_stM ?_
 refine vo_nil ?_
 refine hK2 _ ?_
 refine vc_seq fun K3 hK3 => ?_
 refine vc_region ?_
 refine vo_fieldAddr_ptr rfl rfl Try.underlying87 rfl inf3 (by rw [sz3]; decide) ?_
 try simp only [Nat.zero_add]
 refine vo_load_var rfl rfl rfl Try.underlying3 rfl rfl ?_
 refine vo_fieldAddr_ptr rfl rfl Try.underlying85 rfl inf3 (by rw [sz3]; decide) ?_
 try simp only [Nat.zero_add]
 refine vo_store_var rfl rfl rfl rfl inf3 sz3 rfl ?_
 refine vo_stM ?_
 refine vo_nil ?_
 refine hK3 _ ?_
 refine vc_seq fun K4 hK4 => ?_
 refine vc_region ?_
 refine vo_fieldAddr_ptr rfl rfl Try.underlying87 rfl inf3 (by rw [sz3]; decide) ?_
 try simp only [Nat.zero_add]
 refine vo_load_var rfl rfl rfl Try.underlying3 rfl rfl ?_
 refine vo_fieldAddr_ptr rfl rfl Try.underlying85 rfl inf3 (by rw [sz3]; decide) ?_
 try simp only [Nat.zero_add]
 refine vo_store_var rfl rfl rfl rfl inf3 sz3 rfl ?_
 refine vo_stM ?_
 refine vo_nil ?_
 refine hK4 _ ?_
 refine vc_seq fun K5 hK5 => ?_
 refine vc_region ?_
 refine vo_load_varS rfl rfl rfl Try.underlying85 rfl inf85 sz85 rfl rfl ?_
 refine vo_store_varS rfl rfl rfl inf85 sz85 rfl ?_
 refine vo_stM ?_
 refine vo_nil ?_
 refine hK5 _ ?_
 refine vc_ret ?_
 change retQ _ _ _ _ _
 refine retQ_sel [] (srows := []) (.inr rfl) hC rfl rfl rfl rfl rfl rfl rfl ?_
 exact ⟨rfl, rfl⟩


theorem toRegS_sat {nl0 : Option Bool} {a : List (Int × Int)} (ha : a.length < 1000000000)  : SatAt Try.prog 39 [.pv false (.sl nl0 2 (a.map pairP))] [] (fun res rows => res = [.pv true (.sl (some false) 2 (a.map pairP))] ∧ rows = []) := by
 have hcl := fun k h => cpy_len ((0, 0) : Int × Int) a k h
 refine sat_entry_G (rs := [(2, none)]) Try.func39 rfl rfl (Nat.le_of_ble_eq_true rfl) (Nat.le_of_ble_eq_true rfl) (resTs1 trivial) fun C hC => ?_
 rw [Try.ntmps39]
 replace hC : C.nb = 0 := hC
 refine vc_seq fun K1 hK1 => ?_
 refine vc_region ?_
 refine vo_assign_pv rfl rfl ?_
 refine vo_nil ?_
 refine hK1 _ ?_
 refine vc_seq fun K2 hK2 => ?_
 refine vc_region ?_
 refine vo_move_pv rfl rfl ?_
 refine vo_len_pv rfl rfl Try.underlying48 ?_
 refine vo_make E43 rfl rfl rfl sd sd sd ?_
 refine vo_assign_ref rfl rfl ?_
 refine vo_nil ?_
 refine hK2 _ ?_
 refine vc_seq fun K3 hK3 => ?_
 refine vc_seq fun K4 hK4 => ?_
 refine vc_region ?_
 refine vo_assign_pv rfl rfl ?_
 refine vo_nil ?_
 refine hK4 _ ?_
 refine vc_block ?_
 refine vc_stM ?_
 refine vc_loopE [0] [3, 4] [0] _ _ (fun mz vs rs => ∃ (k : Nat), mz = a.length - k ∧ (k ≤ a.length) ∧ vs = [.ref 0, i64 k] ∧ rs = [Row.own 85 2 (some false) true ((cpy (0, 0) a k).map pairP)]) (a.length) rfl rfl (le_len hC rfl) ⟨rfl, rfl, rfl⟩ rfl ⟨0, rfl, Nat.zero_le _, rfl, (by simp only [rep_pairs, cpy_0, List.length_map]; rfl)⟩ ?_
 rintro mz vs rs - - ⟨k, rfl, hk, rfl, rfl⟩
 refine vc_stM ?_
 have hcl9 := hcl k hk
 refine vc_seq fun K5 hK5 => ?_
 refine vc_seq fun K6 hK6 => ?_
 refine vc_region ?_
 refine vo_move_pv rfl rfl ?_
 refine vo_move_pv rfl rfl ?_
 refine vo_len_pv rfl rfl Try.underlying48 ?_
 refine vo_binI rfl rfl rfl rfl trivial ?_
 refine vo_nil ?_
 refine hK6 _ ?_
 refine vc_cond rfl (fun hc1 => ?_) (fun hc1 => ?_)
 ·try simp only [zq0, zq1, zq2, zq3, zq4, zq5, zq6, zq7, zq8, zq9, zqa, zqb, zqc, zqd, zqe, zqf] at hc1
  refine vc_skip ?_
  refine hK5 _ ?_
  refine vc_seq fun K7 hK7 => ?_
  refine vc_block ?_
  refine vc_region ?_
  refine vo_move_ref rfl rfl ?_
  refine vo_move_pv rfl rfl ?_
  refine vo_move_pv rfl rfl ?_
  refine vo_move_pv rfl rfl ?_
  refine vo_index_pv (.agg [(.int .i64 0), (.int .i64 0)]) rfl rfl rfl E48.und inf87 sz87 sd sd ?_
  simp only [Int.toNat_natCast, Int.toNat_zero, getD_ints, getD_intss, getD_bools, getD_bytes, PV.cells, getD_pairs]
  refine vo_load_adrS rfl rfl Try.underlying87 rfl inf87 sz87 rfl ?_
  refine vo_st (by (try simp only [St.put, PV.cells, PV.scal, List.drop_succ_cons, List.drop_zero, List.take_succ_cons, List.take_zero, List.map_cons, List.map_nil, Bool.or_true, Bool.or_false, Bool.false_or, Bool.true_or, opP, pairP, instP, heapP]); exact eq_refl _) ?_
  refine vo_call0 Try.func78 rfl rfl rfl rfl toReg_sat ?_
  rintro _ _ ⟨rfl, rfl⟩
  refine ⟨rfl, rfl, .inl rfl, ?_⟩
  refine vo_stM ?_
  refine vo_index_ref rfl rfl rfl rfl E43.und inf85 sz85 sd sd ?_
  try simp only [Int.toNat_natCast]
  refine vo_store_own rfl rfl rfl inf85 sz85 (by decide) rfl sd ?_
  try simp only [set_ints, set_intss, set_bools, rep_bools, rep_ints, Int.toNat_natCast, Int.toNat_zero, set_pairs, set_pair1, rep_pairs]
  refine vo_stM ?_
  refine vo_nil ?_
  refine hK7 _ ?_
  refine vc_region ?_
  refine vo_move_pv rfl rfl ?_
  refine vo_binI rfl rfl rfl rfl sd ?_
  refine vo_assign_pv rfl rfl ?_
  refine vo_nil ?_
  change againE _ _ _ _ _ _ _ _ _ _
  refine againE_mk rfl rfl rfl rfl rfl rfl ⟨_, ?_, k + 1, rfl, ?_, rfl, (by rw [← cpy_set _ _ _ (by omega)]; rfl)⟩
  ·omega
  ·omega
 ·try simp only [zq0, zq1, zq2, zq3, zq4, zq5, zq6, zq7, zq8, zq9, zqa, zqb, zqc, zqd, zqe, zqf] at hc1
  refine vc_exit ?_
  refine hK3 _ ?_
  refine vc_seq fun K8 hK8 => ?_
  refine vc_region ?_
  refine vo_move_ref rfl rfl ?_
  refine vo_assign_ref rfl rfl ?_
  refine vo_nil ?_
  refine hK8 _ ?_
  refine vc_expose 0 (by omega) rfl ?_
  refine vc_stM ?_
  refine vc_ret ?_
  change retQ _ _ _ _ _
  refine retQ_sel [] (srows := []) (.inr rfl) hC rfl rfl rfl rfl rfl rfl rfl ?_
  have : k = a.length := by omega
  subst this
  rw [cpy_end]
  exact ⟨rfl, rfl⟩


theorem eqReg_sat {a : Int × Int} {b : Int × Int}   : SatAt Try.prog 79 [.pv false (pairP a), .pv false (pairP b)] [] (fun res rows => res = [bo (decide (a = b))] ∧ rows = []) := by
 refine sat_entry_G (rs := [(4, none)]) Try.func79 rfl rfl (Nat.le_of_ble_eq_true rfl) (Nat.le_of_ble_eq_true rfl) (resTs1 trivial) fun C hC => ?_
 rw [Try.ntmps79]
 replace hC : C.nb = 0 := hC
 refine vc_seq fun K1 hK1 => ?_
 refine vc_region ?_
 refine vo_box rfl rfl ?_
 refine vo_stM ?_
 refine vo_box rfl rfl ?_
 refine vo_stM ?_
 refine vo_assign_pv rfl rfl ?_
 refine vo_nil ?_
 refine hK1 _ ?_
 refine vc_seq fun K2 hK2 => ?_
 refine vc_seq fun K3 hK3 => ?_
 refine vc_region ?_
 refine vo_fieldAddr_ptr rfl rfl Try.underlying85 rfl inf3 (by rw [sz3]; decide) ?_
 try simp only [Nat.zero_add]
 refine vo_load_var rfl rfl rfl Try.underlying3 rfl rfl ?_
 refine vo_fieldAddr_ptr rfl rfl Try.underlying85 rfl inf3 (by rw [sz3]; decide) ?_
 try simp only [Nat.zero_add]
 refine vo_load_var rfl rfl rfl Try.underlying3 rfl rfl ?_
 refine vo_binI rfl rfl rfl rfl trivial ?_
 refine vo_nil ?_
 refine hK3 _ ?_
 refine vc_cond rfl (fun hc1 => ?_) (fun hc1 => ?_)
 ·try simp only [zq0, zq1, zq2, zq3, zq4, zq5, zq6, zq7, zq8, zq9, zqa, zqb, zqc, zqd, zqe, zqf] at hc1
  refine vc_seq fun K4 hK4 => ?_
  refine vc_region ?_
  refine vo_assign_pv rfl rfl ?_
  refine vo_nil ?_
  refine hK4 _ ?_
  refine vc_ret ?_
  change retQ _ _ _ _ _
  refine retQ_sel [] (srows := []) (.inr rfl) hC rfl rfl rfl rfl rfl rfl rfl ?_
  refine ⟨?_, rfl⟩
  refine (congrArg (fun b => [bo b]) (?_ : _ = _) : [bo _] = [bo _])
  cases a; cases b; simp_all
 ·try simp only [zq0, zq1, zq2, zq3, zq4, zq5, zq6, zq7, zq8, zq9, zqa, zqb, zqc, zqd, zqe, zqf] at hc1
  refine vc_skip ?_
  refine hK2 _ ?_
  refine vc_seq fun K5 hK5 => ?_
  refine vc_seq fun K6 hK6 => ?_
  refine vc_region ?_
  refine vo_fieldAddr_ptr rfl rfl Try.underlying85 rfl inf3 (by rw [sz3]; decide) ?_
  try simp only [Nat.zero_add]
  refine vo_load_var rfl rfl rfl Try.underlying3 rfl rfl ?_
  refine vo_fieldAddr_ptr rfl rfl Try.underlying85 rfl inf3 (by rw [sz3]; decide) ?_
  try simp only [Nat.zero_add]
  refine vo_load_var rfl rfl rfl Try.underlying3 rfl rfl ?_
  refine vo_binI rfl rfl rfl rfl trivial ?_
  refine vo_nil ?_
  refine hK6 _ ?_
  refine vc_cond rfl (fun hc2 => ?_) (fun hc2 => ?_)
  ·try simp only [zq0, zq1, zq2, zq3, zq4, zq5, zq6, zq7, zq8, zq9, zqa, zqb, zqc, zqd, zqe, zqf] at hc2
   refine vc_seq fun K7 hK7 => ?_
   refine vc_region ?_
   refine vo_assign_pv rfl rfl ?_
   refine vo_nil ?_
   refine hK7 _ ?_
   refine vc_ret ?_
   change retQ _ _ _ _ _
   refine retQ_sel [] (srows := []) (.inr rfl) hC rfl rfl rfl rfl rfl rfl rfl ?_
   refine ⟨?_, rfl⟩
   refine (congrArg (fun b => [bo b]) (?_ : _ = _) : [bo _] = [bo _])
   cases a; cases b; simp_all
  ·try simp only [zq0, zq1, zq2, zq3, zq4, zq5, zq6, zq7, zq8, zq9, zqa, zqb, zqc, zqd, zqe, zqf] at hc2
   refine vc_skip ?_
   refine hK5 _ ?_
   refine vc_seq fun K8 hK8 => ?_
   refine vc_region ?_
   refine vo_assign_pv rfl rfl ?_
   refine vo_nil ?_
   refine hK8 _ ?_
   refine vc_ret ?_
   change retQ _ _ _ _ _
   refine retQ_sel [] (srows := []) (.inr rfl) hC rfl rfl rfl rfl rfl rfl rfl ?_
   refine ⟨?_, rfl⟩
   refine (congrArg (fun b => [bo b]) (?_ : _ = _) : [bo _] = [bo _])
   cases a; cases b; simp_all


theorem eqRegS_sat {nl0 : Option Bool} {a : List (Int × Int)} {nl1 : Option Bool} {b : List (Int × Int)} (ha : a.length < 1000000000) (hb : b.length < 1000000000)  : SatAt Try.prog 40 [.pv false (.sl nl0 2 (a.map pairP)), .pv false (.sl nl1 2 (b.map pairP))] [] (fun res rows => res = [bo (decide (a = b))] ∧ rows = []) := by
 refine sat_entry_G (rs := [(4, none)]) Try.func40 rfl rfl (Nat.le_of_ble_eq_true rfl) (Nat.le_of_ble_eq_true rfl) (resTs1 trivial) fun C hC => ?_
 rw [Try.ntmps40]
 replace hC : C.nb = 0 := hC
 refine vc_seq fun K1 hK1 => ?_
 refine vc_region ?_
 refine vo_assign_pv rfl rfl ?_
 refine vo_nil ?_
 refine hK1 _ ?_
 refine vc_seq fun K2 hK2 => ?_
 refine vc_seq fun K3 hK3 => ?_
 refine vc_region ?_
 refine vo_move_pv rfl rfl ?_
 refine vo_len_pv rfl rfl Try.underlying43 ?_
 refine vo_move_pv rfl rfl ?_
 refine vo_len_pv rfl rfl Try.underlying43 ?_
 refine vo_binI rfl rfl rfl rfl trivial ?_
 refine vo_nil ?_
 refine hK3 _ ?_
 refine vc_cond rfl (fun hc1 => ?_) (fun hc1 => ?_)
 ·try simp only [zq0, zq1, zq2, zq3, zq4, zq5, zq6, zq7, zq8, zq9, zqa, zqb, zqc, zqd, zqe, zqf] at hc1
  refine vc_seq fun K4 hK4 => ?_
  refine vc_region ?_
  refine vo_assign_pv rfl rfl ?_
  refine vo_nil ?_
  refine hK4 _ ?_
  refine vc_ret ?_
  change retQ _ _ _ _ _
  refine retQ_sel [] (srows := []) (.inr rfl) hC rfl rfl rfl rfl rfl rfl rfl ?_
  refine ⟨?_, rfl⟩
  refine (congrArg (fun b => [bo b]) (?_ : _ = _) : [bo _] = [bo _])
  exact bF fun h => by rw [h] at hc1; exact hc1 rfl
 ·try simp only [zq0, zq1, zq2, zq3, zq4, zq5, zq6, zq7, zq8, zq9, zqa, zqb, zqc, zqd, zqe, zqf] at hc1
  refine vc_skip ?_
  refine hK2 _ ?_
  refine vc_seq fun K5 hK5 => ?_
  refine vc_seq fun K6 hK6 => ?_
  refine vc_region ?_
  refine vo_assign_pv rfl rfl ?_
  refine vo_nil ?_
  refine hK6 _ ?_
  refine vc_block ?_
  refine vc_stM ?_
  refine vc_loopE [0, 1] [5] [] _ _ (fun mz vs rs => ∃ (k : Nat), mz = a.length - k ∧ (k ≤ a.length) ∧ (a.take k = b.take k) ∧ vs = [i64 k] ∧ rs = []) (a.length) rfl rfl (le_len hC rfl) ⟨rfl, rfl, rfl⟩ rfl ⟨0, rfl, Nat.zero_le _, (by simp), rfl, rfl⟩ ?_
  rintro mz vs rs - - ⟨k, rfl, hk, hf, rfl, rfl⟩
  refine vc_stM ?_
  refine vc_seq fun K7 hK7 => ?_
  refine vc_seq fun K8 hK8 => ?_
  refine vc_region ?_
  refine vo_move_pv rfl rfl ?_
  refine vo_move_pv rfl rfl ?_
  refine vo_len_pv rfl rfl Try.underlying43 ?_
  refine vo_binI rfl rfl rfl rfl trivial ?_
  refine vo_nil ?_
  refine hK8 _ ?_
  refine vc_cond rfl (fun hc2 => ?_) (fun hc2 => ?_)
  ·try simp only [zq0, zq1, zq2, zq3, zq4, zq5, zq6, zq7, zq8, zq9, zqa, zqb, zqc, zqd, zqe, zqf] at hc2
   refine vc_skip ?_
   refine hK7 _ ?_
   refine vc_seq fun K9 hK9 => ?_
   refine vc_block ?_
   refine vc_seq fun K10 hK10 => ?_
   refine vc_draw (by kernel_rfl) ?_
   change VD _ _ _ 10 _ _ _
   refine vd_light 0 rfl rfl rfl (by kernel_rfl) (by kernel_rfl) (by kernel_rfl) (wnt_none rfl) (lt_move_pv rfl) ?_
   refine vd_light 1 rfl rfl rfl (by kernel_rfl) (by kernel_rfl) (by kernel_rfl) (wnt_none rfl) (lt_move_pv rfl) ?_
   refine vd_light 2 rfl rfl rfl (by kernel_rfl) (by kernel_rfl) (by kernel_rfl) (wnt_none rfl) (lt_index_pv (.agg [(.int .i64 0), (.int .i64 0)]) rfl rfl E43.und inf85 sz85 sd sd) ?_
   simp only [Int.toNat_natCast, Int.toNat_zero, getD_ints, getD_intss, getD_bools, getD_bytes, PV.cells, getD_pairs]
   refine vd_light 3 rfl rfl rfl (by kernel_rfl) (by kernel_rfl) (by kernel_rfl) (wnt_none rfl) (lt_load_adrS rfl Try.underlying85 rfl inf85 sz85 rfl) ?_
   refine vd_st (by (try simp only [St.put, PV.cells, PV.scal, List.drop_succ_cons, List.drop_zero, List.take_succ_cons, List.take_zero, List.map_cons, List.map_nil, Bool.or_true, Bool.or_false, Bool.false_or, Bool.true_or, opP, pairP, instP, heapP]); exact eq_refl _) ?_
   refine vd_light 4 rfl rfl rfl (by kernel_rfl) (by kernel_rfl) (by kernel_rfl) (wnt_none rfl) (lt_move_pv rfl) ?_
   refine vd_light 5 rfl rfl rfl (by kernel_rfl) (by kernel_rfl) (by kernel_rfl) (wnt_none rfl) (lt_move_pv rfl) ?_
   refine vd_light 6 rfl rfl rfl (by kernel_rfl) (by kernel_rfl) (by kernel_rfl) (wnt_none rfl) (lt_index_pv (.agg [(.int .i64 0), (.int .i64 0)]) rfl rfl E43.und inf85 sz85 sd sd) ?_
   simp only [Int.toNat_natCast, Int.toNat_zero, getD_ints, getD_intss, getD_bools, getD_bytes, PV.cells, getD_pairs]
   refine vd_light 7 rfl rfl rfl (by kernel_rfl) (by kernel_rfl) (by kernel_rfl) (wnt_none rfl) (lt_load_adrS rfl Try.underlying85 rfl inf85 sz85 rfl) ?_
   refine vd_st (by (try simp only [St.put, PV.cells, PV.scal, List.drop_succ_cons, List.drop_zero, List.take_succ_cons, List.take_zero, List.map_cons, List.map_nil, Bool.or_true, Bool.or_false, Bool.false_or, Bool.true_or, opP, pairP, instP, heapP]); exact eq_refl _) ?_
   refine vd_call 8 rfl (by kernel_rfl) (wnt_none rfl) Try.func79 rfl rfl rfl rfl eqReg_sat ?_
   rintro _ _ ⟨rfl, rfl⟩
   refine ⟨rfl, rfl, .inl rfl, ?_⟩
   refine vd_stM ?_
   refine vd_light 9 rfl rfl rfl (by kernel_rfl) (by kernel_rfl) (by kernel_rfl) (wnt_none rfl) (lt_not rfl) ?_
   refine vd_nil (by kernel_rfl) ?_
   refine hK10 _ ?_
   refine vc_cond rfl (fun hc3 => ?_) (fun hc3 => ?_)
   ·try simp only [zq0, zq1, zq2, zq3, zq4, zq5, zq6, zq7, zq8, zq9, zqa, zqb, zqc, zqd, zqe, zqf] at hc3
    refine vc_seq fun K11 hK11 => ?_
    refine vc_region ?_
    refine vo_assign_pv rfl rfl ?_
    refine vo_nil ?_
    refine hK11 _ ?_
    refine vc_ret ?_
    change retQ _ _ _ _ _
    refine retQ_sel [] (srows := []) (.inr rfl) hC rfl rfl rfl rfl rfl rfl rfl ?_
    refine ⟨?_, rfl⟩
    refine (congrArg (fun b => [bo b]) (?_ : _ = _) : [bo _] = [bo _])
    exact bF fun h => hc3 (by rw [h])
   ·try simp only [zq0, zq1, zq2, zq3, zq4, zq5, zq6, zq7, zq8, zq9, zqa, zqb, zqc, zqd, zqe, zqf] at hc3
    refine vc_skip ?_
    refine hK9 _ ?_
    refine vc_region ?_
    refine vo_move_pv rfl rfl ?_
    refine vo_binI rfl rfl rfl rfl sd ?_
    refine vo_assign_pv rfl rfl ?_
    refine vo_nil ?_
    change againE _ _ _ _ _ _ _ _ _ _
    refine againE_mk rfl rfl rfl rfl rfl rfl ⟨_, ?_, k + 1, rfl, ?_, ?_, rfl, rfl⟩
    ·omega
    ·omega
    ·exact (take_eqS (0, 0) (by omega) (by omega)).2 ⟨hf, by first | assumption | (simpa using hc3)⟩
  ·try simp only [zq0, zq1, zq2, zq3, zq4, zq5, zq6, zq7, zq8, zq9, zqa, zqb, zqc, zqd, zqe, zqf] at hc2
   refine vc_exit ?_
   refine hK5 _ ?_
   refine vc_seq fun K12 hK12 => ?_
   refine vc_region ?_
   refine vo_assign_pv rfl rfl ?_
   refine vo_nil ?_
   refine hK12 _ ?_
   refine vc_ret ?_
   change retQ _ _ _ _ _
   refine retQ_sel [] (srows := []) (.inr rfl) hC rfl rfl rfl rfl rfl rfl rfl ?_
   refine ⟨?_, rfl⟩
   refine (congrArg (fun b => [bo b]) (?_ : _ = _) : [bo _] = [bo _])
   rw [take_all (by omega), take_all (by omega)] at hf; exact bT hf


theorem implValidRegs_sat {nl0 : Option Bool} {bases : List (List Int)} {nl1 : Option Bool} {regs : List (Int × Int)} (hbases : bases.length < 1000000000) (hlbases : ∀ l ∈ bases, l.length < 1000000000) (hregs : regs.length < 1000000000)  : SatAt Try.prog 45 [.pv false (.sl nl0 1 (bases.map ints)), .pv false (.sl nl1 2 (regs.map pairP))] [] (fun res rows => res = [bo (decide (VRegs bases regs))] ∧ rows = []) := by
  refine sat_entry_G (rs := [(4, none)]) Try.func45 rfl rfl (Nat.le_of_ble_eq_true rfl) (Nat.le_of_ble_eq_true rfl) (resTs1 trivial) fun C hC => ?_
  rw [Try.ntmps45]
  replace hC : C.nb = 0 := hC
  refine vc_seq fun K1 hK1 => ?_
  refine vc_region ?_
  refine vo_assign_pv rfl rfl ?_
  refine vo_nil ?_
  refine hK1 _ ?_
  refine vc_seq fun K2 hK2 => ?_
  refine vc_seq fun K3 hK3 => ?_
  refine vc_region ?_
  refine vo_move_pv rfl rfl ?_
  refine vo_call0 Try.func21 rfl rfl rfl rfl (implValidBases_sat hbases hlbases) ?_
  rintro _ _ ⟨rfl, rfl⟩
  refine ⟨rfl, rfl, .inl rfl, ?_⟩
  refine vo_stM ?_
  refine vo_not rfl rfl ?_
  refine vo_move_pv rfl rfl ?_
  refine vo_split 10 rfl (fun hg1 => ?_) (fun hg1 => ?_)
  · try simp only [zq0, zq1, zq2, zq3, zq4, zq5, zq6, zq7, zq8, zq9, zqa, zqb, zqc, zqd, zqe, zqf] at hg1
    refine vo_guard_off rfl rfl rfl rfl rfl ?_
    refine vo_guard_off rfl rfl rfl rfl rfl ?_
    refine vo_guard_off rfl rfl rfl rfl rfl ?_
    refine vo_pick_t rfl rfl ?_
    refine vo_nil ?_
    refine hK3 _ ?_
    refine vc_cond_t rfl ?_
    refine vc_seq fun K4 hK4 => ?_
    refine vc_region ?_
    refine vo_assign_pv rfl rfl ?_
    refine vo_nil ?_
    refine hK4 _ ?_
    refine vc_ret ?_
    change retQ _ _ _ _ _
    refine retQ_sel [] (srows := []) (.inr rfl) hC rfl rfl rfl rfl rfl rfl rfl ?_
    refine ⟨?_, rfl⟩
    refine (congrArg (fun b => [bo b]) (?_ : _ = _) : [bo _] = [bo _])
    first
      | (refine bF fun h0 => ?_
         have h1 := h0.2.1
         first
           | omega
           | exact absurd h0.1 (by assumption)
           | (have h2 := okReg_at (show k < regs.length by omega) h0.2.2
              unfold okReg at h2
              first | omega | exact absurd h2 (by assumption) | exact absurd (upto2.2 h2) (by assumption) | (simp_all; done) | (simp_all; omega)))
      | (rw [take_all (by omega)] at hf; exact bT ⟨by assumption, by omega, hf⟩)
      | (refine bF fun h0 => ?_; exact absurd h0.1 (by assumption))
      | (rw [take_all (by omega)] at hf
         have hml : (regs.map pairP).length = regs.length := List.length_map ..
         refine decide_eq_decide.2 ⟨fun h => ?_, fun h => ?_⟩
         · exact ⟨by assumption, by omega, hf⟩
         · have h8 := h.2.1
           omega)
  · try simp only [zq0, zq1, zq2, zq3, zq4, zq5, zq6, zq7, zq8, zq9, zqa, zqb, zqc, zqd, zqe, zqf] at hg1
    refine vo_guard_on rfl rfl rfl ?_
    refine vo_move_pv rfl rfl ?_
    refine vo_guard_on rfl rfl rfl ?_
    refine vo_len_pv rfl rfl Try.underlying43 ?_
    refine vo_guard_on rfl rfl rfl ?_
    refine vo_binI rfl rfl rfl rfl trivial ?_
    refine vo_pick_f rfl rfl ?_
    refine vo_nil ?_
    refine hK3 _ ?_
    refine vc_cond rfl (fun hc2 => ?_) (fun hc2 => ?_)
    · try simp only [zq0, zq1, zq2, zq3, zq4, zq5, zq6, zq7, zq8, zq9, zqa, zqb, zqc, zqd, zqe, zqf] at hc2
      refine vc_seq fun K5 hK5 => ?_
      refine vc_region ?_
      refine vo_assign_pv rfl rfl ?_
      refine vo_nil ?_
      refine hK5 _ ?_
      refine vc_ret ?_
      change retQ _ _ _ _ _
      refine retQ_sel [] (srows := []) (.inr rfl) hC rfl rfl rfl rfl rfl rfl rfl ?_
      refine ⟨?_, rfl⟩
      refine (congrArg (fun b => [bo b]) (?_ : _ = _) : [bo _] = [bo _])
      first
        | (refine bF fun h0 => ?_
           have h1 := h0.2.1
           first
             | omega
             | exact absurd h0.1 (by assumption)
             | (have h2 := okReg_at (show k < regs.length by omega) h0.2.2
                unfold okReg at h2
                first | omega | exact absurd h2 (by assumption) | exact absurd (upto2.2 h2) (by assumption) | (simp_all; done) | (simp_all; omega)))
        | (rw [take_all (by omega)] at hf; exact bT ⟨by assumption, by omega, hf⟩)
        | (refine bF fun h0 => ?_; exact absurd h0.1 (by assumption))
        | (rw [take_all (by omega)] at hf
           have hml : (regs.map pairP).length = regs.length := List.length_map ..
           refine decide_eq_decide.2 ⟨fun h => ?_, fun h => ?_⟩
           · exact ⟨by assumption, by omega, hf⟩
           · have h8 := h.2.1
             omega)
    · try simp only [zq0, zq1, zq2, zq3, zq4, zq5, zq6, zq7, zq8, zq9, zqa, zqb, zqc, zqd, zqe, zqf] at hc2
      refine vc_skip ?_
      refine hK2 _ ?_
      refine vc_seq fun K6 hK6 => ?_
      refine vc_seq fun K7 hK7 => ?_
      refine vc_region ?_
      refine vo_move_pv rfl rfl ?_
      refine vo_len_pv rfl rfl Try.underlying43 ?_
      refine vo_move_pv rfl rfl ?_
      refine vo_nil ?_
      refine hK7 _ ?_
      refine vc_block ?_
      refine vc_stM ?_
      refine vc_loopE [0, 15, 16] [17] [] _ _ (fun mz vs rs => ∃ (k : Nat), mz = regs.length - k ∧ (k ≤ regs.length) ∧ (∀ p ∈ regs.take k, okReg bases.length p) ∧ vs = [i64 k] ∧ rs = []) (regs.length) rfl rfl (le_len hC rfl) ⟨rfl, rfl, rfl⟩ rfl ⟨0, rfl, Nat.zero_le _, (by simp), rfl, rfl⟩ ?_
      rintro mz vs rs - - ⟨k, rfl, hk, hf, rfl, rfl⟩
      refine vc_stM ?_
      refine vc_seq fun K8 hK8 => ?_
      refine vc_region ?_
      refine vo_binI rfl rfl rfl rfl trivial ?_
      refine vo_nil ?_
      refine hK8 _ ?_
      refine vc_seq fun K9 hK9 => ?_
      refine vc_cond rfl (fun hc3 => ?_) (fun hc3 => ?_)
      · try simp only [zq0, zq1, zq2, zq3, zq4, zq5, zq6, zq7, zq8, zq9, zqa, zqb, zqc, zqd, zqe, zqf] at hc3
        refine vc_skip ?_
        refine hK9 _ ?_
        refine vc_seq fun K10 hK10 => ?_
        refine vc_block ?_
        refine vc_seq fun K11 hK11 => ?_
        refine vc_region ?_
        refine vo_index_pv (.agg [(.int .i64 0), (.int .i64 0)]) rfl rfl rfl E43.und inf85 sz85 sd sd ?_
        simp only [Int.toNat_natCast, Int.toNat_zero, getD_ints, getD_intss, getD_bools, getD_bytes, PV.cells, getD_pairs]
        refine vo_load_adrS rfl rfl Try.underlying85 rfl inf85 sz85 rfl ?_
        refine vo_st (by (try simp only [St.put, PV.cells, PV.scal, List.drop_succ_cons, List.drop_zero, List.take_succ_cons, List.take_zero, List.map_cons, List.map_nil, Bool.or_true, Bool.or_false, Bool.false_or, Bool.true_or, opP, pairP, instP, heapP]); exact eq_refl _) ?_
        refine vo_alloc Z85 rfl ?_
        refine vo_stM ?_
        refine vo_store_varS rfl rfl rfl inf85 sz85 rfl ?_
        refine vo_stM ?_
        refine vo_nil ?_
        refine hK11 _ ?_
        refine vc_seq fun K12 hK12 => ?_
        refine vc_region ?_
        refine vo_fieldAddr_ptr rfl rfl Try.underlying85 rfl inf3 (by rw [sz3]; decide) ?_
        try simp only [Nat.zero_add]
        refine vo_load_var rfl rfl rfl Try.underlying3 rfl rfl ?_
        refine vo_fieldAddr_ptr rfl rfl Try.underlying85 rfl inf3 (by rw [sz3]; decide) ?_
        try simp only [Nat.zero_add]
        refine vo_load_var rfl rfl rfl Try.underlying3 rfl rfl ?_
        refine vo_buildSlice E24 rfl rfl rfl rfl rfl ?_
        refine vo_stM ?_
        refine vo_move_pv rfl rfl ?_
        refine vo_len_pv rfl rfl Try.underlying23 ?_
        refine vo_binI rfl rfl rfl rfl sd ?_
        refine vo_expose 1 (by omega) rfl ?_
        refine vo_stM ?_
        refine vo_weaken 25 rfl ?_
        refine vo_stM ?_
        refine vo_call0 Try.func84 rfl rfl rfl rfl (areUpTo_sat (list := [(regs.getD k (0, 0)).1, (regs.getD k (0, 0)).2]) (by simp)) ?_
        rintro _ _ ⟨rfl, rfl⟩
        refine ⟨rfl, rfl, .inl rfl, ?_⟩
        refine vo_stM ?_
        refine vo_not rfl rfl ?_
        refine vo_nil ?_
        refine hK12 _ ?_
        refine vc_cond rfl (fun hc4 => ?_) (fun hc4 => ?_)
        · try simp only [zq0, zq1, zq2, zq3, zq4, zq5, zq6, zq7, zq8, zq9, zqa, zqb, zqc, zqd, zqe, zqf] at hc4
          refine vc_seq fun K13 hK13 => ?_
          refine vc_region ?_
          refine vo_assign_pv rfl rfl ?_
          refine vo_nil ?_
          refine hK13 _ ?_
          refine vc_ret ?_
          change retQ _ _ _ _ _
          refine retQ_sel [] (srows := []) (.inr rfl) hC rfl rfl rfl rfl rfl rfl rfl ?_
          refine ⟨?_, rfl⟩
          refine (congrArg (fun b => [bo b]) (?_ : _ = _) : [bo _] = [bo _])
          first
            | (refine bF fun h0 => ?_
               have h1 := h0.2.1
               first
                 | omega
                 | exact absurd h0.1 (by assumption)
                 | (have h2 := okReg_at (show k < regs.length by omega) h0.2.2
                    unfold okReg at h2
                    first | omega | exact absurd h2 (by assumption) | exact absurd (upto2.2 h2) (by assumption) | (simp_all; done) | (simp_all; omega)))
            | (rw [take_all (by omega)] at hf; exact bT ⟨by assumption, by omega, hf⟩)
            | (refine bF fun h0 => ?_; exact absurd h0.1 (by assumption))
            | (rw [take_all (by omega)] at hf
               have hml : (regs.map pairP).length = regs.length := List.length_map ..
               refine decide_eq_decide.2 ⟨fun h => ?_, fun h => ?_⟩
               · exact ⟨by assumption, by omega, hf⟩
               · have h8 := h.2.1
                 omega)
        · try simp only [zq0, zq1, zq2, zq3, zq4, zq5, zq6, zq7, zq8, zq9, zqa, zqb, zqc, zqd, zqe, zqf] at hc4
          refine vc_skip ?_
          refine hK10 _ ?_
          refine vc_region ?_
          refine vo_binI rfl rfl rfl rfl sd ?_
          refine vo_move_pv rfl rfl ?_
          refine vo_nil ?_
          change againE _ _ _ _ _ _ _ _ _ _
          refine againE_mk rfl rfl rfl rfl rfl rfl ⟨_, ?_, k + 1, rfl, ?_, ?_, rfl, rfl⟩
          · omega
          · omega
          · exact okReg_succ (by omega) hf (by unfold okReg; first | assumption | exact upto2.1 (by assumption) | (constructor <;> (constructor <;> omega)))
      · try simp only [zq0, zq1, zq2, zq3, zq4, zq5, zq6, zq7, zq8, zq9, zqa, zqb, zqc, zqd, zqe, zqf] at hc3
        refine vc_exit ?_
        refine hK6 _ ?_
        refine vc_seq fun K14 hK14 => ?_
        refine vc_region ?_
        refine vo_assign_pv rfl rfl ?_
        refine vo_nil ?_
        refine hK14 _ ?_
        refine vc_ret ?_
        change retQ _ _ _ _ _
        refine retQ_sel [] (srows := []) (.inr rfl) hC rfl rfl rfl rfl rfl rfl rfl ?_
        refine ⟨?_, rfl⟩
        refine (congrArg (fun b => [bo b]) (?_ : _ = _) : [bo _] = [bo _])
        first
          | (refine bF fun h0 => ?_
             have h1 := h0.2.1
             first
               | omega
               | exact absurd h0.1 (by assumption)
               | (have h2 := okReg_at (show k < regs.length by omega) h0.2.2
                  unfold okReg at h2
                  first | omega | exact absurd h2 (by assumption) | exact absurd (upto2.2 h2) (by assumption) | (simp_all; done) | (simp_all; omega)))
          | (rw [take_all (by omega)] at hf; exact bT ⟨by assumption, by omega, hf⟩)
          | (refine bF fun h0 => ?_; exact absurd h0.1 (by assumption))
          | (rw [take_all (by omega)] at hf
             have hml : (regs.map pairP).length = regs.length := List.length_map ..
             refine decide_eq_decide.2 ⟨fun h => ?_, fun h => ?_⟩
             · exact ⟨by assumption, by omega, hf⟩
             · have h8 := h.2.1
               omega)


theorem specValidRegs0_sat {nl0 : Option Bool} {bases : List (List Int)} {nl1 : Option Bool} {regs : List (Int × Int)} (hbases : bases.length < 1000000000) (hlbases : ∀ l ∈ bases, l.length < 1000000000) (hregs : regs.length < 1000000000)  : SatAt Try.prog 75 [.pv false (.sl nl0 1 (bases.map ints)), .pv false (.sl nl1 2 (regs.map pairP))] [] (fun res rows => res = [bo (decide (VRegs bases regs))] ∧ rows = []) := by
  refine sat_entry_G (rs := [(4, none)]) Try.func75 rfl rfl (Nat.le_of_ble_eq_true rfl) (Nat.le_of_ble_eq_true rfl) (resTs1 trivial) fun C hC => ?_
  rw [Try.ntmps75]
  replace hC : C.nb = 0 := hC
  refine vc_seq fun K1 hK1 => ?_
  refine vc_region ?_
  refine vo_assign_pv rfl rfl ?_
  refine vo_nil ?_
  refine hK1 _ ?_
  refine vc_seq fun K2 hK2 => ?_
  refine vc_seq fun K3 hK3 => ?_
  refine vc_region ?_
  refine vo_assign_pv rfl rfl ?_
  refine vo_nil ?_
  refine hK3 _ ?_
  refine vc_block ?_
  refine vc_stM ?_
  refine vc_loopE [0, 1] [5] [] _ _ (fun mz vs rs => ∃ (k : Nat), mz = regs.length - k ∧ (k ≤ regs.length) ∧ (∀ p ∈ regs.take k, okReg bases.length p) ∧ vs = [i64 k] ∧ rs = []) (regs.length) rfl rfl (le_len hC rfl) ⟨rfl, rfl, rfl⟩ rfl ⟨0, rfl, Nat.zero_le _, (by simp), rfl, rfl⟩ ?_
  rintro mz vs rs - - ⟨k, rfl, hk, hf, rfl, rfl⟩
  refine vc_stM ?_
  refine vc_seq fun K4 hK4 => ?_
  refine vc_seq fun K5 hK5 => ?_
  refine vc_region ?_
  refine vo_move_pv rfl rfl ?_
  refine vo_move_pv rfl rfl ?_
  refine vo_len_pv rfl rfl Try.underlying43 ?_
  refine vo_binI rfl rfl rfl rfl trivial ?_
  refine vo_nil ?_
  refine hK5 _ ?_
  refine vc_cond rfl (fun hc1 => ?_) (fun hc1 => ?_)
  · try simp only [zq0, zq1, zq2, zq3, zq4, zq5, zq6, zq7, zq8, zq9, zqa, zqb, zqc, zqd, zqe, zqf] at hc1
    refine vc_skip ?_
    refine hK4 _ ?_
    refine vc_seq fun K6 hK6 => ?_
    refine vc_block ?_
    refine vc_seq fun K7 hK7 => ?_
    refine vc_region ?_
    refine vo_move_pv rfl rfl ?_
    refine vo_move_pv rfl rfl ?_
    refine vo_index_pv (.agg [(.int .i64 0), (.int .i64 0)]) rfl rfl rfl E43.und inf85 sz85 sd sd ?_
    simp only [Int.toNat_natCast, Int.toNat_zero, getD_ints, getD_intss, getD_bools, getD_bytes, PV.cells, getD_pairs]
    refine vo_fieldAddr_adr rfl rfl Try.underlying85 rfl inf3 (by rw [sz3]; decide) ?_
    refine vo_load_adr rfl rfl Try.underlying3 rfl ?_
    refine vo_move_pv rfl rfl ?_
    refine vo_len_pv rfl rfl Try.underlying23 ?_
    refine vo_binI rfl rfl rfl rfl sd ?_
    refine vo_call0 Try.func58 rfl rfl rfl rfl inRange_sat ?_
    rintro _ _ ⟨rfl, rfl⟩
    refine ⟨rfl, rfl, .inl rfl, ?_⟩
    refine vo_stM ?_
    refine vo_not rfl rfl ?_
    refine vo_move_pv rfl rfl ?_
    refine vo_split 22 rfl (fun hg2 => ?_) (fun hg2 => ?_)
    · try simp only [zq0, zq1, zq2, zq3, zq4, zq5, zq6, zq7, zq8, zq9, zqa, zqb, zqc, zqd, zqe, zqf] at hg2
      refine vo_guard_off rfl rfl rfl rfl rfl ?_
      refine vo_guard_off rfl rfl rfl rfl rfl ?_
      refine vo_guard_off rfl rfl rfl rfl rfl ?_
      refine vo_guard_off rfl rfl rfl rfl rfl ?_
      refine vo_guard_off rfl rfl rfl rfl rfl ?_
      refine vo_guard_off rfl rfl rfl rfl rfl ?_
      refine vo_guard_off rfl rfl rfl rfl rfl ?_
      refine vo_guard_off rfl rfl rfl rfl rfl ?_
      refine vo_guard_off rfl rfl rfl rfl rfl ?_
      refine vo_guard_off rfl rfl rfl rfl rfl ?_
      refine vo_pick_t rfl rfl ?_
      refine vo_nil ?_
      refine hK7 _ ?_
      refine vc_cond_t rfl ?_
      refine vc_seq fun K8 hK8 => ?_
      refine vc_region ?_
      refine vo_assign_pv rfl rfl ?_
      refine vo_nil ?_
      refine hK8 _ ?_
      refine vc_ret ?_
      change retQ _ _ _ _ _
      refine retQ_sel [] (srows := []) (.inr rfl) hC rfl rfl rfl rfl rfl rfl rfl ?_
      refine ⟨?_, rfl⟩
      refine (congrArg (fun b => [bo b]) (?_ : _ = _) : [bo _] = [bo _])
      first
        | (refine bF fun h0 => ?_
           have h1 := h0.2.1
           first
             | omega
             | exact absurd h0.1 (by assumption)
             | (have h2 := okReg_at (show k < regs.length by omega) h0.2.2
                unfold okReg at h2
                first | omega | exact absurd h2 (by assumption) | exact absurd (upto2.2 h2) (by assumption) | (simp_all; done) | (simp_all; omega)))
        | (rw [take_all (by omega)] at hf; exact bT ⟨by assumption, by omega, hf⟩)
        | (refine bF fun h0 => ?_; exact absurd h0.1 (by assumption))
        | (rw [take_all (by omega)] at hf
           have hml : (regs.map pairP).length = regs.length := List.length_map ..
           refine decide_eq_decide.2 ⟨fun h => ?_, fun h => ?_⟩
           · exact ⟨by assumption, by omega, hf⟩
           · have h8 := h.2.1
             omega)
    · try simp only [zq0, zq1, zq2, zq3, zq4, zq5, zq6, zq7, zq8, zq9, zqa, zqb, zqc, zqd, zqe, zqf] at hg2
      refine vo_guard_on rfl rfl rfl ?_
      refine vo_move_pv rfl rfl ?_
      refine vo_guard_on rfl rfl rfl ?_
      refine vo_move_pv rfl rfl ?_
      refine vo_guard_on rfl rfl rfl ?_
      refine vo_index_pv (.agg [(.int .i64 0), (.int .i64 0)]) rfl rfl rfl E43.und inf85 sz85 sd sd ?_
      simp only [Int.toNat_natCast, Int.toNat_zero, getD_ints, getD_intss, getD_bools, getD_bytes, PV.cells, getD_pairs]
      refine vo_guard_on rfl rfl rfl ?_
      refine vo_fieldAddr_adr rfl rfl Try.underlying85 rfl inf3 (by rw [sz3]; decide) ?_
      refine vo_guard_on rfl rfl rfl ?_
      refine vo_load_adr rfl rfl Try.underlying3 rfl ?_
      refine vo_guard_on rfl rfl rfl ?_
      refine vo_move_pv rfl rfl ?_
      refine vo_guard_on rfl rfl rfl ?_
      refine vo_len_pv rfl rfl Try.underlying23 ?_
      refine vo_guard_on rfl rfl rfl ?_
      refine vo_binI rfl rfl rfl rfl sd ?_
      refine vo_guard_on rfl rfl rfl ?_
      refine vo_call0 Try.func58 rfl rfl rfl rfl inRange_sat ?_
      rintro _ _ ⟨rfl, rfl⟩
      refine ⟨rfl, rfl, .inl rfl, ?_⟩
      refine vo_stM ?_
      refine vo_guard_on rfl rfl rfl ?_
      refine vo_not rfl rfl ?_
      refine vo_pick_f rfl rfl ?_
      refine vo_nil ?_
      refine hK7 _ ?_
      refine vc_cond rfl (fun hc3 => ?_) (fun hc3 => ?_)
      · try simp only [zq0, zq1, zq2, zq3, zq4, zq5, zq6, zq7, zq8, zq9, zqa, zqb, zqc, zqd, zqe, zqf] at hc3
        refine vc_seq fun K9 hK9 => ?_
        refine vc_region ?_
        refine vo_assign_pv rfl rfl ?_
        refine vo_nil ?_
        refine hK9 _ ?_
        refine vc_ret ?_
        change retQ _ _ _ _ _
        refine retQ_sel [] (srows := []) (.inr rfl) hC rfl rfl rfl rfl rfl rfl rfl ?_
        refine ⟨?_, rfl⟩
        refine (congrArg (fun b => [bo b]) (?_ : _ = _) : [bo _] = [bo _])
        first
          | (refine bF fun h0 => ?_
             have h1 := h0.2.1
             first
               | omega
               | exact absurd h0.1 (by assumption)
               | (have h2 := okReg_at (show k < regs.length by omega) h0.2.2
                  unfold okReg at h2
                  first | omega | exact absurd h2 (by assumption) | exact absurd (upto2.2 h2) (by assumption) | (simp_all; done) | (simp_all; omega)))
          | (rw [take_all (by omega)] at hf; exact bT ⟨by assumption, by omega, hf⟩)
          | (refine bF fun h0 => ?_; exact absurd h0.1 (by assumption))
          | (rw [take_all (by omega)] at hf
             have hml : (regs.map pairP).length = regs.length := List.length_map ..
             refine decide_eq_decide.2 ⟨fun h => ?_, fun h => ?_⟩
             · exact ⟨by assumption, by omega, hf⟩
             · have h8 := h.2.1
               omega)
      · try simp only [zq0, zq1, zq2, zq3, zq4, zq5, zq6, zq7, zq8, zq9, zqa, zqb, zqc, zqd, zqe, zqf] at hc3
        refine vc_skip ?_
        refine hK6 _ ?_
        refine vc_region ?_
        refine vo_move_pv rfl rfl ?_
        refine vo_binI rfl rfl rfl rfl sd ?_
        refine vo_assign_pv rfl rfl ?_
        refine vo_nil ?_
        change againE _ _ _ _ _ _ _ _ _ _
        refine againE_mk rfl rfl rfl rfl rfl rfl ⟨_, ?_, k + 1, rfl, ?_, ?_, rfl, rfl⟩
        · omega
        · omega
        · exact okReg_succ (by omega) hf (by unfold okReg; first | assumption | exact upto2.1 (by assumption) | (constructor <;> (constructor <;> omega)))
  · try simp only [zq0, zq1, zq2, zq3, zq4, zq5, zq6, zq7, zq8, zq9, zqa, zqb, zqc, zqd, zqe, zqf] at hc1
    refine vc_exit ?_
    refine hK2 _ ?_
    refine vc_seq fun K10 hK10 => ?_
    refine vc_region ?_
    refine vo_move_pv rfl rfl ?_
    refine vo_call0 Try.func57 rfl rfl rfl rfl (specValidBases0_sat hbases hlbases) ?_
    rintro _ _ ⟨rfl, rfl⟩
    refine ⟨rfl, rfl, .inl rfl, ?_⟩
    refine vo_stM ?_
    refine vo_move_pv rfl rfl ?_
    refine vo_split 36 rfl (fun hg4 => ?_) (fun hg4 => ?_)
    · try simp only [zq0, zq1, zq2, zq3, zq4, zq5, zq6, zq7, zq8, zq9, zqa, zqb, zqc, zqd, zqe, zqf] at hg4
      refine vo_guard_on rfl rfl rfl ?_
      refine vo_move_pv rfl rfl ?_
      refine vo_guard_on rfl rfl rfl ?_
      refine vo_len_pv rfl rfl Try.underlying43 ?_
      refine vo_guard_on rfl rfl rfl ?_
      refine vo_binI rfl rfl rfl rfl trivial ?_
      refine vo_pick_t rfl rfl ?_
      refine vo_assign_pv rfl rfl ?_
      refine vo_nil ?_
      refine hK10 _ ?_
      refine vc_ret ?_
      change retQ _ _ _ _ _
      refine retQ_sel [] (srows := []) (.inr rfl) hC rfl rfl rfl rfl rfl rfl rfl ?_
      refine ⟨?_, rfl⟩
      refine (congrArg (fun b => [bo b]) (?_ : _ = _) : [bo _] = [bo _])
      first
        | (refine bF fun h0 => ?_
           have h1 := h0.2.1
           first
             | omega
             | exact absurd h0.1 (by assumption)
             | (have h2 := okReg_at (show k < regs.length by omega) h0.2.2
                unfold okReg at h2
                first | omega | exact absurd h2 (by assumption) | exact absurd (upto2.2 h2) (by assumption) | (simp_all; done) | (simp_all; omega)))
        | (rw [take_all (by omega)] at hf; exact bT ⟨by assumption, by omega, hf⟩)
        | (refine bF fun h0 => ?_; exact absurd h0.1 (by assumption))
        | (rw [take_all (by omega)] at hf
           have hml : (regs.map pairP).length = regs.length := List.length_map ..
           refine decide_eq_decide.2 ⟨fun h => ?_, fun h => ?_⟩
           · exact ⟨by assumption, by omega, hf⟩
           · have h8 := h.2.1
             omega)
    · try simp only [zq0, zq1, zq2, zq3, zq4, zq5, zq6, zq7, zq8, zq9, zqa, zqb, zqc, zqd, zqe, zqf] at hg4
      refine vo_guard_off rfl rfl rfl rfl rfl ?_
      refine vo_guard_off rfl rfl rfl rfl rfl ?_
      refine vo_guard_off rfl rfl rfl rfl rfl ?_
      refine vo_pick_f rfl rfl ?_
      refine vo_assign_pv rfl rfl ?_
      refine vo_nil ?_
      refine hK10 _ ?_
      refine vc_ret ?_
      change retQ _ _ _ _ _
      refine retQ_sel [] (srows := []) (.inr rfl) hC rfl rfl rfl rfl rfl rfl rfl ?_
      refine ⟨?_, rfl⟩
      refine (congrArg (fun b => [bo b]) (?_ : _ = _) : [bo _] = [bo _])
      first
        | (refine bF fun h0 => ?_
           have h1 := h0.2.1
           first
             | omega
             | exact absurd h0.1 (by assumption)
             | (have h2 := okReg_at (show k < regs.length by omega) h0.2.2
                unfold okReg at h2
                first | omega | exact absurd h2 (by assumption) | exact absurd (upto2.2 h2) (by assumption) | (simp_all; done) | (simp_all; omega)))
        | (rw [take_all (by omega)] at hf; exact bT ⟨by assumption, by omega, hf⟩)
        | (refine bF fun h0 => ?_; exact absurd h0.1 (by assumption))
        | (rw [take_all (by omega)] at hf
           have hml : (regs.map pairP).length = regs.length := List.length_map ..
           refine decide_eq_decide.2 ⟨fun h => ?_, fun h => ?_⟩
           · exact ⟨by assumption, by omega, hf⟩
           · have h8 := h.2.1
             omega)


theorem hasRegs_sat {nl0 : Option Bool} {bases : List (List Int)} {nl1 : Option Bool} {regs : List (Int × Int)} {nl2 : Option Bool} {classes : List Int} (hbases : bases.length < 1000000000) (hlbases : ∀ l ∈ bases, l.length < 1000000000) (hregs : regs.length < 1000000000) (hclasses : classes.length < 1000000000)  : SatAt Try.prog 70 [.pv false (.sl nl0 1 (bases.map ints)), .pv false (.sl nl1 2 (regs.map pairP)), .pv false (.sl nl2 1 (classes.map intP))] [] (fun res rows => res = [bo (decide (hasRC bases regs classes))] ∧ rows = []) := by
 refine sat_entry_G (rs := [(6, none)]) Try.func70 rfl rfl (Nat.le_of_ble_eq_true rfl) (Nat.le_of_ble_eq_true rfl) (resTs1 trivial) fun C hC => ?_
 rw [Try.ntmps70]
 replace hC : C.nb = 0 := hC
 refine vc_seq fun K1 hK1 => ?_
 refine vc_region ?_
 refine vo_assign_pv rfl rfl ?_
 refine vo_nil ?_
 refine hK1 _ ?_
 refine vc_seq fun K2 hK2 => ?_
 refine vc_region ?_
 refine vo_move_pv rfl rfl ?_
 refine vo_move_pv rfl rfl ?_
 refine vo_call0 Try.func45 rfl rfl rfl rfl (implValidRegs_sat hbases hlbases hregs) ?_
 rintro _ _ ⟨rfl, rfl⟩
 refine ⟨rfl, rfl, .inl rfl, ?_⟩
 refine vo_stM ?_
 refine vo_move_pv rfl rfl ?_
 refine vo_split 10 rfl (fun hg1 => ?_) (fun hg1 => ?_)
 ·try simp only [zq0, zq1, zq2, zq3, zq4, zq5, zq6, zq7, zq8, zq9, zqa, zqb, zqc, zqd, zqe, zqf] at hg1
  refine vo_guard_on rfl rfl rfl ?_
  refine vo_move_pv rfl rfl ?_
  refine vo_guard_on rfl rfl rfl ?_
  refine vo_move_pv rfl rfl ?_
  refine vo_guard_on rfl rfl rfl ?_
  refine vo_len_pv rfl rfl Try.underlying23 ?_
  refine vo_guard_on rfl rfl rfl ?_
  refine vo_binI rfl rfl rfl rfl sd ?_
  refine vo_guard_on rfl rfl rfl ?_
  refine vo_call0 Try.func84 rfl rfl rfl rfl (areUpTo_sat hclasses) ?_
  rintro _ _ ⟨rfl, rfl⟩
  refine ⟨rfl, rfl, .inl rfl, ?_⟩
  refine vo_stM ?_
  refine vo_pick_t rfl rfl ?_
  refine vo_assign_pv rfl rfl ?_
  refine vo_nil ?_
  refine hK2 _ ?_
  refine vc_ret ?_
  change retQ _ _ _ _ _
  refine retQ_sel [] (srows := []) (.inr rfl) hC rfl rfl rfl rfl rfl rfl rfl ?_
  refine ⟨?_, rfl⟩
  refine (congrArg (fun b => [bo b]) (?_ : _ = _) : [bo _] = [bo _])
  first
   | exact bF fun h0 => absurd h0.1 (by assumption)
   | exact decide_eq_decide.2 ⟨fun h0 => ⟨by assumption, fun x hx => by have := h0 x hx; simpa using this⟩, fun h0 x hx => by have := h0.2 x hx; simpa using this⟩
 ·try simp only [zq0, zq1, zq2, zq3, zq4, zq5, zq6, zq7, zq8, zq9, zqa, zqb, zqc, zqd, zqe, zqf] at hg1
  refine vo_guard_off rfl rfl rfl rfl rfl ?_
  refine vo_guard_off rfl rfl rfl rfl rfl ?_
  refine vo_guard_off rfl rfl rfl rfl rfl ?_
  refine vo_guard_off rfl rfl rfl rfl rfl ?_
  refine vo_guard_off rfl rfl rfl rfl rfl ?_
  refine vo_pick_f rfl rfl ?_
  refine vo_assign_pv rfl rfl ?_
  refine vo_nil ?_
  refine hK2 _ ?_
  refine vc_ret ?_
  change retQ _ _ _ _ _
  refine retQ_sel [] (srows := []) (.inr rfl) hC rfl rfl rfl rfl rfl rfl rfl ?_
  refine ⟨?_, rfl⟩
  refine (congrArg (fun b => [bo b]) (?_ : _ = _) : [bo _] = [bo _])
  first
   | exact bF fun h0 => absurd h0.1 (by assumption)
   | exact decide_eq_decide.2 ⟨fun h0 => ⟨by assumption, fun x hx => by have := h0 x hx; simpa using this⟩, fun h0 x hx => by have := h0.2 x hx; simpa using this⟩


end Go.Vl

/- A variable takes a new row: its old row is given up, and the new one lies in its place. -/
namespace Go.Vl
set_option linter.unusedVariables false
set_option linter.unusedSimpArgs false
open Go.RowKit
section
variable {P : Program} {C : Ctx} {Q : Go.Exit → St → Prop} {s : St} {ops : Array Oper} {rest : List Oper} {t : Nat} {ty : TypeId} {pos : String} {af : Array Edge}

theorem SimM.mvRow {m : Nat → MV} {a : Act} {w : World} (hs : SimM C s m a w) {id j : Nat} {R e : Nat} {nl : Option Bool} {f : Bool} {xs : List PV} (hne : id ≠ j) (hid : liveAt s.rows id) (hnb : C.nb ≤ id) (hnj : C.nb ≤ j)
    (hrow : s.rows[j]? = some (.own R e nl f xs)) :
    SimM C ⟨s.n, killE id s.env, ((s.rows.map (Row.kill id)).set j .dead).set id (.own R e nl f xs)⟩ (updM m id (m j)) a w := by
  have hj : liveAt s.rows j := ⟨_, hrow, rfl⟩
  refine hs.joinRow hne hid hj hnb hnj (bo := none) (fun b h => by cases h) (grown_refl w) (.own R e nl f xs) (m j) (fun b hb => .inr (.inl hb)) (fun hG => ?_)
  have h0 := hs.rows j _ hrow
  generalize m j = v at h0 hG ⊢
  cases h0 with
  | own v t' e nl fr xs vs hown h1 h2 hw hr =>
    refine .own _ _ _ _ _ _ vs hown h1 h2 hw (fun i x j c hx hc => ?_)
    obtain ⟨u, hu, hp⟩ := hr i x j c hx hc
    exact ⟨u, hu, hp.mono fun b hb => hG _ b hb⟩

theorem vo_assign_mv {x : Operand} (id j : Nat) {R e : Nat} {nl : Option Bool} {f : Bool} {xs : List PV} (ht : Nat.blt t s.n = true) (hx : getO s.env x = .ref j) (hne : id ≠ j) (hid : (s.rows[id]?).map Row.live = some true) (hnb : C.nb ≤ id) (hnj : C.nb ≤ j)
    (hrow : s.rows[j]? = some (.own R e nl f xs))
    (next : VO P C ops rest Q ⟨s.n, (t, .ref id) :: killE id s.env, ((s.rows.map (Row.kill id)).set j .dead).set id (.own R e nl f xs)⟩) :
    VO P C ops (⟨some t, .assign x, ty, pos, af, none⟩ :: rest) Q s := by
  have hl : liveAt s.rows id := by
    cases h : s.rows[id]? with
    | none => rw [h] at hid; cases hid
    | some r => rw [h] at hid; simp only [Option.map_some, Option.some.injEq] at hid; exact ⟨r, h, hid⟩
  refine vo_value (s1 := ⟨s.n, killE id s.env, ((s.rows.map (Row.kill id)).set j .dead).set id (.own R e nl f xs)⟩) (sv := .ref id) ht (fun m a w hs => ?_) next
  have hv := (hs.row hx).1
  refine ⟨(m j).v, w, updM m id (m j), by simp [execOp, hv], hs.mvRow hne hl hnb hnj hrow, ?_⟩
  have hidl : id < s.rows.length := by
    obtain ⟨q, hq, _⟩ := hl
    exact (List.getElem?_eq_some_iff.1 hq).1
  have := RS.ref (w := w) (G := Gd C (((s.rows.map (Row.kill id)).set j .dead).set id (.own R e nl f xs)) (updM m id (m j)) w) (m := updM m id (m j)) (N := (((s.rows.map (Row.kill id)).set j .dead).set id (.own R e nl f xs)).length) id (by simpa using hidl)
  rw [updM_same] at this
  exact this
end
end Go.Vl

namespace Go.Vl
set_option linter.unusedVariables false
set_option linter.unusedSimpArgs false
open Go.Proofs

end Go.Vl

namespace Go.Vl
set_option linter.unusedVariables false
set_option linter.unusedSimpArgs false
open Go.Proofs

theorem srt_sel {n : Nat} {l : List Int} (h : MetOK n l) : srt l = selI (fun i => decide (i ∈ l)) n := by
  have h1 : (srt l).Nodup := (List.mergeSort_perm l _).nodup_iff.2 h.1
  have h2 : (srt l).Pairwise (· < ·) := by
    have h3 := srt_pair l
    rw [List.nodup_iff_pairwise_ne] at h1
    exact (List.pairwise_and_iff.2 ⟨h3, h1⟩).imp fun h => by have := h.1; have := h.2; omega
  refine asc_ext h2 (selI_asc _ _) fun x => ?_
  rw [srt_mem, selI_mem, decide_eq_true_iff]
  exact ⟨fun hx => ⟨hx, (h.2 x hx).1, by have := (h.2 x hx).2; omega⟩, fun hx => hx.1⟩
theorem metU_ok {b : List (List Int)} {r : List (Int × Int)} (h : VRegs b r) : ∀ (f i : Nat) (met : List Int), MetOK b.length met → MetOK b.length (growM (upM b r) f met i)
  | 0, _, _, hm => hm
  | f + 1, i, met, hm => by
    unfold growM
    split
    · rename_i hi
      exact metU_ok h f (i + 1) _ (grow_step h hm hi).1
    · exact hm
end Go.Vl

namespace Go.Vl
set_option linter.unusedVariables false
set_option linter.unusedSimpArgs false
open Go.Proofs
def MkP (L : List (Int × Int)) (k : Int) (n : Nat) : Prop := ∀ j : Nat, j < n → L.getD j (0, 0) = (k + 2 * j, k + 2 * j + 1)
theorem MkP.set {L : List (Int × Int)} {k y : Int} {n : Nat} (h : MkP L k n) (hn : n < L.length) (hy : y = k + 2 * n) : MkP (L.set n (y, y + 1)) k (n + 1) := by
  intro j hj
  rcases Nat.lt_or_ge j n with h1 | h1
  · rw [← h j h1]
    simp [List.getD, List.getElem?_set, show n ≠ j by omega]
  · have : j = n := by omega
    subst this
    rw [hy]
    simp [List.getD, List.getElem?_set, hn]
theorem supM_yes {b : List (List Int)} {r : List (Int × Int)} {c : Int} (hV : VRegs b r) (h0 : 0 ≤ c) (h1 : c < b.length) : supM b r c = selI (fun i => decide (i ∈ metU b r c)) b.length := by
  unfold supM
  rw [if_pos ⟨hV, fun x hx => by rw [List.mem_singleton.1 hx]; omega⟩]
  exact srt_sel (metU_ok hV 13 0 [c] (met_one h0 h1))
end Go.Vl

namespace Go.Vl
set_option linter.unusedVariables false
set_option linter.unusedSimpArgs false
open Go.Proofs

/-- A reader that has given p numbers. -/
abbrev rdr (nl : Option Bool) (c : List (Fin 256)) (p : Nat) : Row := .var 92 [.pv false (.sl nl 1 (c.map byteP)), i64 p]
/-- Bases as the readers make them. -/
def SB (B : List (List Int)) : Prop := 1 ≤ B.length ∧ B.getD 0 [] = [] ∧ ∀ i, i < B.length → 0 < i → B.getD i [] ≠ [] ∧ (B.getD i []).length ≤ 3 ∧ (B.getD i []).Nodup ∧ ∀ x ∈ B.getD i [], 0 ≤ x ∧ x < i
theorem SB.lens {B : List (List Int)} (h : SB B) : ∀ l ∈ B, l.length ≤ 3 := by
  intro l hl
  obtain ⟨i, hi, rfl⟩ := List.getElem_of_mem hl
  have e : B[i] = B.getD i [] := by simp [List.getD, List.getElem?_eq_getElem hi]
  rw [e]
  rcases Nat.eq_zero_or_pos i with rfl | h0
  · rw [h.2.1]; simp
  · exact (h.2.2 i hi h0).2.1

end Go.Vl

namespace Go.Vl
set_option linter.unusedVariables false
set_option linter.unusedSimpArgs false
open Go.Proofs

end Go.Vl

namespace Go.Vl
set_option linter.unusedVariables false
set_option linter.unusedSimpArgs false
open Go.Proofs

end Go.Vl

/- Operations that read no memory come at any time, behind those that write too. -/
namespace Go.Vl
set_option linter.unusedVariables false
set_option linter.unusedSimpArgs false
open Go.RowKit
section
variable {P : Program} {C : Ctx} {s : St} {t : Nat} {ty : TypeId} {pos : String} {af : Array Edge}

end
end Go.Vl

namespace Go.Vl
set_option linter.unusedVariables false
set_option linter.unusedSimpArgs false
open Go.Proofs

def SV.nilE (e : Nat) : SV → SV
  | .pv f (.sl (some true) 0 []) => .pv f (.sl (some true) e [])
  | s => s

theorem SatAt.nilE (e : Nat) {P : Program} {f : FuncId} {args : List SV} {rows : List Row} {R : List SV → List Row → Prop} (h : SatAt P f (args.map (SV.nilE e)) rows R) : SatAt P f args rows R := by
  intro C m vals h1 h2 h3 h4
  refine h C m vals h1 h2 (by simpa using h3) { h4 with env := fun t => ?_ }
  have hv := h4.env t
  show RS _ _ _ _ (look (enumE 0 (args.map (SV.nilE e))) t) _
  rw [look_enumE] at hv ⊢
  simp only [List.getElem?_map]
  split at hv
  · rename_i h0
    rw [if_pos h0]
    cases ha : args[t - 0]? with
    | none => rw [ha] at hv; exact hv
    | some x =>
      rw [ha] at hv
      simp only [Option.getD_some, Option.map_some] at hv ⊢
      unfold SV.nilE
      split
      · generalize (#[] : Array Value) = z at *
        generalize vals.getD t undef = u at *
        cases hv with
        | pv _ _ _ hp =>
          cases hp with
          | nilsl _ _ hn => exact .pv _ _ _ (.nilsl _ _ hn)
          | sl nl e xs a len cap f hn => exact absurd rfl hn
      · exact hv
  · rename_i h0; rw [if_neg h0]; exact .any _

theorem onceF_pre : ∀ (l acc : List Int), ∃ t, onceF acc l = acc ++ t
  | [], acc => ⟨[], by simp [onceF]⟩
  | x :: l, acc => by
    simp only [onceF]
    split
    · exact onceF_pre l acc
    · obtain ⟨t, ht⟩ := onceF_pre l (acc ++ [x])
      exact ⟨x :: t, by rw [ht]; simp⟩
theorem onceF_memS (y : Int) : ∀ (l acc : List Int), y ∈ onceF acc l ↔ y ∈ acc ∨ y ∈ l
  | [], acc => by simp [onceF]
  | x :: l, acc => by
    simp only [onceF]
    split
    · rename_i hx
      rw [onceF_memS y l acc, List.mem_cons]
      exact ⟨fun h => h.elim .inl fun h => .inr (.inr h), fun h => h.elim .inl fun h => h.elim (fun e => .inl (e ▸ hx)) .inr⟩
    · rw [onceF_memS y l, List.mem_append, List.mem_singleton, List.mem_cons, or_assoc]
theorem grow_sound {next : Int → List Int} {S : Int → Prop} (hS : ∀ x, S x → ∀ y ∈ next x, S y) : ∀ (f : Nat) (met : List Int) (i : Nat), (∀ x ∈ met, S x) → ∀ x ∈ growM next f met i, S x
  | 0, _, _, h => h
  | f + 1, met, i, h => by
    unfold growM
    split
    · rename_i hi
      refine grow_sound hS f _ _ fun x hx => ?_
      rcases (onceF_memS x _ _).1 hx with h1 | h1
      · exact h x h1
      · exact hS _ (h _ (getD_mem hi 0)) x h1
    · exact h
theorem grow_complete {next : Int → List Int} : ∀ (f : Nat) (met : List Int) (i : Nat), (∀ j, j < i → j < met.length → ∀ y ∈ next (met.getD j 0), y ∈ met) → (growM next f met i).length ≤ f + i → ∀ x ∈ growM next f met i, ∀ y ∈ next x, y ∈ growM next f met i
  | 0, met, i, h, hl => by
    intro x hx y hy
    have hx : x ∈ met := hx
    have hl : met.length ≤ 0 + i := hl
    obtain ⟨j, hj, rfl⟩ := List.getElem_of_mem hx
    exact h j (by omega) hj y (by rw [List.getD, List.getElem?_eq_getElem hj]; exact hy)
  | f + 1, met, i, h, hl => by
    unfold growM at hl ⊢
    split at hl
    · rename_i hi
      rw [if_pos hi]
      refine grow_complete f _ _ (fun j hj hjl y hy => ?_) (by omega)
      obtain ⟨t, ht⟩ := onceF_pre (next (met.getD i 0)) met
      have hjm : j < met.length := by omega
      have e : (grow1 next met i).getD j 0 = met.getD j 0 := by
        unfold grow1; rw [ht]; simp only [List.getD]; rw [List.getElem?_append_left hjm]
      rw [e] at hy
      refine (onceF_memS y _ _).2 ?_
      rcases Nat.lt_or_ge j i with h1 | h1
      · exact .inl (h j h1 hjm y hy)
      · rw [show j = i by omega] at hy; exact .inr hy
    · rename_i hi
      rw [if_neg hi]
      intro x hx y hy
      obtain ⟨j, hj, rfl⟩ := List.getElem_of_mem hx
      exact h j (by omega) hj y (by rw [List.getD, List.getElem?_eq_getElem hj]; exact hy)
theorem metU_closed {b : List (List Int)} {r : List (Int × Int)} {c : Int} (hV : VRegs b r) (h0 : 0 ≤ c) (h1 : c < b.length) : ∀ x ∈ metU b r c, ∀ y ∈ upM b r x, y ∈ metU b r c :=
  grow_complete 13 [c] 0 (fun j hj => by omega) (by have := (metU_ok hV 13 0 [c] (met_one h0 h1)).len; have := hV.1.2.1; omega)
theorem metU_self {b : List (List Int)} {r : List (Int × Int)} {c : Int} : c ∈ metU b r c := by
  obtain ⟨t, ht⟩ : ∃ t, growM (upM b r) 13 [c] 0 = c :: t := by
    have key : ∀ (f : Nat) (met : List Int) (i : Nat), (∃ t, met = c :: t) → ∃ t, growM (upM b r) f met i = c :: t := by
      intro f
      induction f with
      | zero => exact fun met i h => h
      | succ f ih =>
        rintro met i ⟨t, rfl⟩
        unfold growM
        split
        · obtain ⟨u, hu⟩ := onceF_pre (upM b r ((c :: t).getD i 0)) (c :: t)
          exact ih _ _ ⟨t ++ u, by unfold grow1; rw [hu]; rfl⟩
        · exact ⟨t, rfl⟩
    exact key 13 [c] 0 ⟨[], rfl⟩
  unfold metU; rw [ht]; simp
theorem met_sub {b : List (List Int)} {r s : List (Int × Int)} {c x : Int} (hV : VRegs b r) (h0 : 0 ≤ c) (h1 : c < b.length) (hs : ∀ p ∈ s, p ∈ r) (hx : x ∈ metU b r c) : ∀ z ∈ metU b s x, z ∈ metU b r c := by
  refine grow_sound (S := fun z => z ∈ metU b r c) (fun z hz y hy => metU_closed hV h0 h1 z hz y ?_) 13 [x] 0 (fun z hz => by rw [List.mem_singleton.1 hz]; exact hx)
  unfold upM at hy ⊢
  rcases List.mem_append.1 hy with h | h
  · exact List.mem_append_left _ h
  · refine List.mem_append_right _ ?_
    obtain ⟨p, hp, e⟩ := List.mem_map.1 h
    obtain ⟨hp1, hp2⟩ := List.mem_filter.1 hp
    exact List.mem_map.2 ⟨p, List.mem_filter.2 ⟨hs p hp1, hp2⟩, e⟩
theorem supM_mem {b : List (List Int)} {r : List (Int × Int)} {c : Int} (hV : VRegs b r) (h0 : 0 ≤ c) (h1 : c < b.length) (x : Int) : x ∈ supM b r c ↔ x ∈ metU b r c := by
  rw [supM_yes hV h0 h1, selI_mem, decide_eq_true_iff]
  have := (metU_ok hV 13 0 [c] (met_one h0 h1)).2 x
  exact ⟨fun h => h.1, fun h => ⟨h, this h⟩⟩
theorem sup_self {b : List (List Int)} {r : List (Int × Int)} {c : Int} (hV : VRegs b r) (h0 : 0 ≤ c) (h1 : c < b.length) : c ∈ supM b r c := (supM_mem hV h0 h1 c).2 metU_self
theorem sup_asc {b : List (List Int)} {r : List (Int × Int)} {c : Int} : (supM b r c).Pairwise (· < ·) := by
  by_cases h : hasRC b r [c]
  · have hc := h.2 c (by simp)
    rw [supM_yes h.1 hc.1 (by omega)]; exact selI_asc _ _
  · unfold supM; rw [if_neg h]; exact .nil
theorem VRegs.none {b : List (List Int)} {r : List (Int × Int)} (h : VRegs b r) : VRegs b [] := ⟨h.1, by simp, fun p hp => by cases hp⟩
/-- Without registrations: what is above. -/
theorem sup_above {b : List (List Int)} {r : List (Int × Int)} {c : Int} (hR : VRegs b r) (h0 : 0 ≤ c) (h1 : c < b.length) : supM b [] c = abvR b c := by
  have hV := hR.none
  obtain ⟨n, rfl⟩ := Int.eq_ofNat_of_zero_le h0
  have hn : n < b.length := by omega
  rw [abvR_of hR.1 hn]
  refine asc_ext sup_asc (abvL_asc b n) fun x => ?_
  rw [supM_mem hV h0 h1]
  have up : ∀ y, upM b [] y = b.getD y.toNat [] := fun y => upM_nil b y
  constructor
  · refine grow_sound (S := fun x => x ∈ abvL b n) (fun x hx y hy => ?_) 13 [(n : Int)] 0 (fun x hx => by rw [List.mem_singleton.1 hx]; exact abvL_refl hR.1 hn) x
    obtain ⟨i, rfl, hi⟩ := (mem_abvL hR.1.bd' hn x).1 hx
    rw [up] at hy
    have hb := hR.1.bd' i y hy
    obtain ⟨d, rfl⟩ := Int.eq_ofNat_of_zero_le hb.1
    exact (mem_abvL hR.1.bd' hn _).2 ⟨d, rfl, hi.trans (.step hy (.refl d))⟩
  · intro hx
    obtain ⟨i, rfl, hi⟩ := (mem_abvL hR.1.bd' hn x).1 hx
    have key : ∀ {d x : Nat}, Abv b d x → (d : Int) ∈ metU b [] n → (x : Int) ∈ metU b [] n := by
      intro d x h
      induction h with
      | refl c => exact id
      | step h _ ih => exact fun hd => ih (metU_closed hV h0 h1 _ hd _ (by rw [up]; exact h))
    exact key hi metU_self
end Go.Vl

namespace Go.Vl
set_option linter.unusedVariables false
set_option linter.unusedSimpArgs false
open Go.Proofs

/-- What one step down leads to. -/
def dn1 (r : List (Int × Int)) (c : Int) : List Int := (r.filter fun p => decide (p.2 = c)).map Prod.fst
def dn2 (b : List (List Int)) (c : Int) (k : Nat) : List Int := ((List.range k).filter fun i => decide (c ∈ b.getD i [])).map fun i : Nat => (i : Int)
def dnM (b : List (List Int)) (r : List (Int × Int)) (c : Int) : List Int := dn1 r c ++ dn2 b c b.length
theorem dn1_yes {r : List (Int × Int)} {c : Int} {k : Nat} (h : k < r.length) (hp : (r.getD k (0, 0)).2 = c) : dn1 (r.take (k+1)) c = dn1 (r.take k) c ++ [(r.getD k (0, 0)).1] := by
  unfold dn1; rw [take_oneR h, List.filter_append, List.filter_cons_of_pos (by simpa using hp), List.map_append]; rfl
theorem dn1_no {r : List (Int × Int)} {c : Int} {k : Nat} (h : k < r.length) (hp : ¬ (r.getD k (0, 0)).2 = c) : dn1 (r.take (k+1)) c = dn1 (r.take k) c := by
  unfold dn1; rw [take_oneR h, List.filter_append, List.filter_cons_of_neg (by simpa using hp)]; simp
theorem dn2_yes {b : List (List Int)} {c : Int} {k : Nat} (hp : c ∈ b.getD k []) : dn2 b c (k+1) = dn2 b c k ++ [(k : Int)] := by
  unfold dn2; rw [List.range_succ, List.filter_append, List.filter_cons_of_pos (by simpa using hp), List.map_append]; rfl
theorem dn2_no {b : List (List Int)} {c : Int} {k : Nat} (hp : ¬ c ∈ b.getD k []) : dn2 b c (k+1) = dn2 b c k := by
  unfold dn2; rw [List.range_succ, List.filter_append, List.filter_cons_of_neg (by simpa using hp)]; simp
theorem dn1_len {r : List (Int × Int)} {c : Int} : (dn1 r c).length ≤ r.length := by unfold dn1; rw [List.length_map]; exact List.length_filter_le _ _
theorem dn2_len {b : List (List Int)} {c : Int} {k : Nat} : (dn2 b c k).length ≤ k := by unfold dn2; rw [List.length_map]; exact Nat.le_trans (List.length_filter_le _ _) (by simp)
theorem dnM_mem {b : List (List Int)} {r : List (Int × Int)} (hV : VRegs b r) {c x : Int} : x ∈ dnM b r c ↔ (0 ≤ x ∧ x < b.length) ∧ c ∈ upM b r x := by
  unfold dnM dn1 dn2 upM
  simp only [List.mem_append, List.mem_map, List.mem_filter, List.mem_range, decide_eq_true_eq]
  constructor
  · rintro (⟨p, ⟨hp, rfl⟩, rfl⟩ | ⟨i, ⟨hi, hc⟩, rfl⟩)
    · have := hV.2.2 p hp
      unfold okReg at this
      exact ⟨by omega, .inr ⟨p, ⟨hp, rfl⟩, rfl⟩⟩
    · exact ⟨by omega, .inl (by simpa using hc)⟩
  · rintro ⟨⟨h0, h1⟩, h | ⟨p, ⟨hp, rfl⟩, rfl⟩⟩
    · exact .inr ⟨x.toNat, ⟨by omega, h⟩, by omega⟩
    · exact .inl ⟨p, ⟨hp, rfl⟩, rfl⟩
theorem dnM_lim {b : List (List Int)} {r : List (Int × Int)} (hV : VRegs b r) {c : Int} : (dnM b r c).length ≤ 20 := by
  have h1 := dn1_len (r := r) (c := c); have h2 := dn2_len (b := b) (c := c) (k := b.length); have h3 := hV.2.1; have h4 := hV.1.2.1
  unfold dnM; rw [List.length_append]; omega
inductive Rch (next : Int → List Int) : Int → Int → Prop
  | refl (c : Int) : Rch next c c
  | step {c d x : Int} (h : d ∈ next c) (h2 : Rch next d x) : Rch next c x
theorem Rch.trans {next : Int → List Int} {c d x : Int} (h : Rch next c d) (h2 : Rch next d x) : Rch next c x := by
  induction h with
  | refl => exact h2
  | step h _ ih => exact .step h (ih h2)
def metD (b : List (List Int)) (r : List (Int × Int)) (c : Int) : List Int := growM (dnM b r) 13 [c] 0
theorem metD_ok {b : List (List Int)} {r : List (Int × Int)} (h : VRegs b r) : ∀ (f i : Nat) (met : List Int), MetOK b.length met → MetOK b.length (growM (dnM b r) f met i)
  | 0, _, _, hm => hm
  | f + 1, i, met, hm => by
    unfold growM
    split
    · rename_i hi
      exact metD_ok h f (i + 1) _ (metOK_once hm fun x hx => ((dnM_mem h).1 hx).1).1
    · exact hm
theorem grow_rch {next : Int → List Int} {c : Int} {f : Nat} (hself : c ∈ growM next f [c] 0) (hc : ∀ x ∈ growM next f [c] 0, ∀ y ∈ next x, y ∈ growM next f [c] 0) (x : Int) : x ∈ growM next f [c] 0 ↔ Rch next c x := by
  constructor
  · refine grow_sound (S := Rch next c) (fun x hx y hy => hx.trans (.step hy (.refl y))) f [c] 0 (fun x hx => by rw [List.mem_singleton.1 hx]; exact .refl c) x
  · intro h
    have key : ∀ {d x : Int}, Rch next d x → d ∈ growM next f [c] 0 → x ∈ growM next f [c] 0 := by
      intro d x h
      induction h with
      | refl => exact id
      | step h _ ih => exact fun hd => ih (hc _ hd _ h)
    exact key h hself
theorem grow_self {next : Int → List Int} {c : Int} : ∀ (f : Nat) (met : List Int) (i : Nat), c ∈ met → c ∈ growM next f met i
  | 0, _, _, h => h
  | f + 1, met, i, h => by
    unfold growM
    split
    · exact grow_self f _ _ ((onceF_memS c _ _).2 (.inl h))
    · exact h
theorem metU_rch {b : List (List Int)} {r : List (Int × Int)} {c : Int} (hV : VRegs b r) (h0 : 0 ≤ c) (h1 : c < b.length) (x : Int) : x ∈ metU b r c ↔ Rch (upM b r) c x :=
  grow_rch (grow_self _ _ _ (by simp)) (metU_closed hV h0 h1) x
theorem metD_rch {b : List (List Int)} {r : List (Int × Int)} {c : Int} (hV : VRegs b r) (h0 : 0 ≤ c) (h1 : c < b.length) (x : Int) : x ∈ metD b r c ↔ Rch (dnM b r) c x :=
  grow_rch (grow_self _ _ _ (by simp)) (grow_complete 13 [c] 0 (fun j hj => by omega) (by have := (metD_ok hV 13 0 [c] (met_one h0 h1)).len; have := hV.1.2.1; omega)) x
theorem rch_dn {b : List (List Int)} {r : List (Int × Int)} (hV : VRegs b r) {c x : Int} (h : Rch (dnM b r) c x) : Rch (upM b r) x c := by
  induction h with
  | refl => exact .refl _
  | step h _ ih => exact ih.trans (.step ((dnM_mem hV).1 h).2 (.refl _))
theorem rch_up {b : List (List Int)} {r : List (Int × Int)} (hV : VRegs b r) {c x : Int} (h0 : 0 ≤ c) (h1 : c < b.length) (h : Rch (upM b r) c x) : Rch (dnM b r) x c := by
  induction h with
  | refl => exact .refl _
  | step h _ ih =>
    have hd := upM_in hV h0 h1 _ h
    exact (ih hd.1 hd.2).trans (.step ((dnM_mem hV).2 ⟨⟨h0, h1⟩, h⟩) (.refl _))
theorem down_up {b : List (List Int)} {r : List (Int × Int)} (hV : VRegs b r) {a c : Int} (a0 : 0 ≤ a) (a1 : a < b.length) (c0 : 0 ≤ c) (c1 : c < b.length) : a ∈ metD b r c ↔ c ∈ metU b r a := by
  rw [metD_rch hV c0 c1, metU_rch hV a0 a1]
  exact ⟨rch_dn hV, rch_up hV a0 a1⟩
def isSubM (b : List (List Int)) (r : List (Int × Int)) (a c : Int) : Prop := hasRC b r [a, c] ∧ c ∈ metU b r a
instance (b : List (List Int)) (r : List (Int × Int)) (a c : Int) : Decidable (isSubM b r a c) := by unfold isSubM; infer_instance
theorem growD_step {b : List (List Int)} {r : List (Int × Int)} (h : VRegs b r) {met : List Int} {i : Nat} (hm : MetOK b.length met) : MetOK b.length (grow1 (dnM b r) met i) ∧ met.length ≤ (grow1 (dnM b r) met i).length :=
  metOK_once hm fun x hx => ((dnM_mem h).1 hx).1

theorem stepsDown_sat {nl0 : Option Bool} {bases : List (List Int)} {nl1 : Option Bool} {regs : List (Int × Int)} {c : Int} (hbases : bases.length < 1000000000) (hlbases : ∀ l ∈ bases, l.length < 1000000000) (hregs : regs.length < 1000000000)  : SatAt Try.prog 81 [.pv false (.sl nl0 1 (bases.map ints)), .pv false (.sl nl1 2 (regs.map pairP)), i64 c] [] (fun res rows => ∃ nl, res = [.ref 0] ∧ rows = [Row.own 3 1 nl true ((dnM bases regs c).map intP)]) := by
 refine sat_entry_G (rs := [(6, none)]) Try.func81 rfl rfl (Nat.le_of_ble_eq_true rfl) (Nat.le_of_ble_eq_true rfl) (resTs1 trivial) fun C hC => ?_
 rw [Try.ntmps81]
 replace hC : C.nb = 0 := hC
 refine vc_seq fun K1 hK1 => ?_
 refine vc_region ?_
 refine vo_assign_pv rfl rfl ?_
 refine vo_own_nil 6 E24 rfl ?_
 refine vo_nil ?_
 refine hK1 _ ?_
 refine vc_seq fun K2 hK2 => ?_
 refine vc_region ?_
 refine vo_assign_pv rfl rfl ?_
 refine vo_nil ?_
 refine hK2 _ ?_
 refine vc_seq fun K3 hK3 => ?_
 refine vc_seq fun K4 hK4 => ?_
 refine vc_region ?_
 refine vo_move_pv rfl rfl ?_
 refine vo_len_pv rfl rfl Try.underlying43 ?_
 refine vo_move_pv rfl rfl ?_
 refine vo_nil ?_
 refine hK4 _ ?_
 refine vc_block ?_
 refine vc_own_nil 7 E24 rfl ?_
 refine vc_stM ?_
 refine vc_loopE [0, 2, 12, 13] [7, 14] [1] _ _ (fun mz vs rs => ∃ (k : Nat), mz = regs.length - k ∧ (k ≤ regs.length) ∧ vs = [.ref 1, i64 k] ∧ rs = [Row.own 3 1 none true ((dn1 (regs.take k) c).map intP)]) (regs.length) rfl rfl (le_len hC rfl) ⟨rfl, rfl, rfl⟩ rfl ⟨0, rfl, Nat.zero_le _, rfl, rfl⟩ ?_
 rintro mz vs rs - - ⟨k, rfl, hk, rfl, rfl⟩
 refine vc_stM ?_
 have hul := dn1_len (r := regs.take k) (c := c)
 rw [List.length_take] at hul
 refine vc_seq fun K5 hK5 => ?_
 refine vc_region ?_
 refine vo_binI rfl rfl rfl rfl trivial ?_
 refine vo_nil ?_
 refine hK5 _ ?_
 refine vc_seq fun K6 hK6 => ?_
 refine vc_cond rfl (fun hc1 => ?_) (fun hc1 => ?_)
 ·try simp only [zq0, zq1, zq2, zq3, zq4, zq5, zq6, zq7, zq8, zq9, zqa, zqb, zqc, zqd, zqe, zqf] at hc1
  refine vc_skip ?_
  refine hK6 _ ?_
  refine vc_seq fun K7 hK7 => ?_
  refine vc_block ?_
  refine vc_seq fun K8 hK8 => ?_
  refine vc_region ?_
  refine vo_index_pv (.agg [(.int .i64 0), (.int .i64 0)]) rfl rfl rfl E43.und inf85 sz85 sd sd ?_
  simp only [Int.toNat_natCast, Int.toNat_zero, getD_ints, getD_intss, getD_bools, getD_bytes, PV.cells, getD_pairs]
  refine vo_load_adrS rfl rfl Try.underlying85 rfl inf85 sz85 rfl ?_
  refine vo_st (by (try simp only [St.put, PV.cells, PV.scal, List.drop_succ_cons, List.drop_zero, List.take_succ_cons, List.take_zero, List.map_cons, List.map_nil, Bool.or_true, Bool.or_false, Bool.false_or, Bool.true_or, opP, pairP, instP, heapP]); exact eq_refl _) ?_
  refine vo_alloc Z85 rfl ?_
  refine vo_stM ?_
  refine vo_store_varS rfl rfl rfl inf85 sz85 rfl ?_
  refine vo_stM ?_
  refine vo_nil ?_
  refine hK8 _ ?_
  refine vc_seq fun K9 hK9 => ?_
  refine vc_region ?_
  refine vo_fieldAddr_ptr rfl rfl Try.underlying85 rfl inf3 (by rw [sz3]; decide) ?_
  try simp only [Nat.zero_add]
  refine vo_load_var rfl rfl rfl Try.underlying3 rfl rfl ?_
  refine vo_move_pv rfl rfl ?_
  refine vo_binI rfl rfl rfl rfl trivial ?_
  refine vo_nil ?_
  refine hK9 _ ?_
  refine vc_cond rfl (fun hc2 => ?_) (fun hc2 => ?_)
  ·try simp only [zq0, zq1, zq2, zq3, zq4, zq5, zq6, zq7, zq8, zq9, zqa, zqb, zqc, zqd, zqe, zqf] at hc2
   refine vc_region ?_
   refine vo_move_ref rfl rfl ?_
   refine vo_fieldAddr_ptr rfl rfl Try.underlying85 rfl inf3 (by rw [sz3]; decide) ?_
   try simp only [Nat.zero_add]
   refine vo_load_var rfl rfl rfl Try.underlying3 rfl rfl ?_
   refine vo_buildSlice E24 rfl rfl rfl rfl rfl ?_
   refine vo_stM ?_
   refine vo_append E24 rfl (by omega) rfl rfl rfl sd sd ?_
   refine vo_stM ?_
   try simp only [app_ints, app_intss, app_bools]
   refine vo_assign_ref rfl rfl ?_
   refine vo_nil ?_
   refine hK7 _ ?_
   refine vc_region ?_
   refine vo_binI rfl rfl rfl rfl sd ?_
   refine vo_move_pv rfl rfl ?_
   refine vo_nil ?_
   change againE _ _ _ _ _ _ _ _ _ _
   refine againE_mk rfl rfl rfl rfl rfl rfl ⟨_, ?_, k + 1, rfl, ?_, rfl, (by rw [dn1_yes (by omega) (by omega)]; rfl)⟩
   ·omega
   ·omega
  ·try simp only [zq0, zq1, zq2, zq3, zq4, zq5, zq6, zq7, zq8, zq9, zqa, zqb, zqc, zqd, zqe, zqf] at hc2
   refine vc_skip ?_
   refine hK7 _ ?_
   refine vc_region ?_
   refine vo_binI rfl rfl rfl rfl sd ?_
   refine vo_move_pv rfl rfl ?_
   refine vo_nil ?_
   change againE _ _ _ _ _ _ _ _ _ _
   refine againE_mk rfl rfl rfl rfl rfl rfl ⟨_, ?_, k + 1, rfl, ?_, rfl, (by rw [dn1_no (by omega) (by omega)]; rfl)⟩
   ·omega
   ·omega
 ·try simp only [zq0, zq1, zq2, zq3, zq4, zq5, zq6, zq7, zq8, zq9, zqa, zqb, zqc, zqd, zqe, zqf] at hc1
  refine vc_exit ?_
  refine hK3 _ ?_
  refine vc_seq fun K10 hK10 => ?_
  refine vc_seq fun K11 hK11 => ?_
  refine vc_region ?_
  refine vo_move_pv rfl rfl ?_
  refine vo_len_pv rfl rfl Try.underlying23 ?_
  refine vo_move_pv rfl rfl ?_
  refine vo_nil ?_
  refine hK11 _ ?_
  refine vc_block ?_
  refine vc_stM ?_
  refine vc_loopE [2, 28, 29] [7, 30] [1] _ _ (fun mz vs rs => ∃ (k : Nat), mz = bases.length - k ∧ (k ≤ bases.length) ∧ vs = [.ref 1, i64 k] ∧ rs = [Row.own 3 1 none true ((dn1 regs c ++ dn2 bases c k).map intP)]) (bases.length) rfl rfl (le_len hC rfl) ⟨rfl, rfl, rfl⟩ rfl ⟨0, rfl, Nat.zero_le _, rfl, (by rw [show dn1 (regs.take k) c = dn1 regs c by rw [take_all (by omega)]]; simp only [dn2, List.range_zero, List.filter_nil, List.map_nil, List.append_nil]; rfl)⟩ ?_
  rintro mz vs rs - - ⟨k, rfl, hk, rfl, rfl⟩
  refine vc_stM ?_
  have hu1 := dn1_len (r := regs) (c := c)
  have hu2 := dn2_len (b := bases) (c := c) (k := k)
  have hu3 : (dn1 regs c ++ dn2 bases c k).length ≤ 3000000000 := by rw [List.length_append]; omega
  refine vc_seq fun K12 hK12 => ?_
  refine vc_region ?_
  refine vo_binI rfl rfl rfl rfl trivial ?_
  refine vo_nil ?_
  refine hK12 _ ?_
  refine vc_seq fun K13 hK13 => ?_
  refine vc_cond rfl (fun hc3 => ?_) (fun hc3 => ?_)
  ·try simp only [zq0, zq1, zq2, zq3, zq4, zq5, zq6, zq7, zq8, zq9, zqa, zqb, zqc, zqd, zqe, zqf] at hc3
   refine vc_skip ?_
   refine hK13 _ ?_
   refine vc_seq fun K14 hK14 => ?_
   refine vc_block ?_
   refine vc_seq fun K15 hK15 => ?_
   refine vc_region ?_
   refine vo_move_pv rfl rfl ?_
   refine vo_index_pv (.sl none 1 []) rfl rfl rfl E23.und inf24 sz24 sd sd ?_
   simp only [Int.toNat_natCast, Int.toNat_zero, getD_ints, getD_intss, getD_bools, getD_bytes, PV.cells, getD_pairs]
   refine vo_load_adr rfl rfl Try.underlying24 rfl ?_
   refine vo_assign_pv rfl rfl ?_
   refine vo_assign_pv rfl rfl ?_
   refine vo_nil ?_
   refine hK15 _ ?_
   refine vc_seq fun K16 hK16 => ?_
   refine vc_region ?_
   refine vo_move_pv rfl rfl ?_
   refine vo_move_pv rfl rfl ?_
   refine vo_call0 Try.func82 rfl rfl rfl rfl (Contains_sat (hlbases _ (getD_mem (show k < bases.length by omega) []))) ?_
   rintro _ _ ⟨rfl, rfl⟩
   refine ⟨rfl, rfl, .inl rfl, ?_⟩
   refine vo_stM ?_
   refine vo_nil ?_
   refine hK16 _ ?_
   refine vc_cond rfl (fun hc4 => ?_) (fun hc4 => ?_)
   ·try simp only [zq0, zq1, zq2, zq3, zq4, zq5, zq6, zq7, zq8, zq9, zqa, zqb, zqc, zqd, zqe, zqf] at hc4
    refine vc_region ?_
    refine vo_move_ref rfl rfl ?_
    refine vo_move_pv rfl rfl ?_
    refine vo_buildSlice E24 rfl rfl rfl rfl rfl ?_
    refine vo_stM ?_
    refine vo_append E24 rfl (by omega) rfl rfl rfl sd sd ?_
    refine vo_stM ?_
    try simp only [app_ints, app_intss, app_bools]
    refine vo_assign_ref rfl rfl ?_
    refine vo_nil ?_
    refine hK14 _ ?_
    refine vc_region ?_
    refine vo_binI rfl rfl rfl rfl sd ?_
    refine vo_move_pv rfl rfl ?_
    refine vo_nil ?_
    change againE _ _ _ _ _ _ _ _ _ _
    refine againE_mk rfl rfl rfl rfl rfl rfl ⟨_, ?_, k + 1, rfl, ?_, rfl, (by rw [dn2_yes (by assumption), ← List.append_assoc]; rfl)⟩
    ·omega
    ·omega
   ·try simp only [zq0, zq1, zq2, zq3, zq4, zq5, zq6, zq7, zq8, zq9, zqa, zqb, zqc, zqd, zqe, zqf] at hc4
    refine vc_skip ?_
    refine hK14 _ ?_
    refine vc_region ?_
    refine vo_binI rfl rfl rfl rfl sd ?_
    refine vo_move_pv rfl rfl ?_
    refine vo_nil ?_
    change againE _ _ _ _ _ _ _ _ _ _
    refine againE_mk rfl rfl rfl rfl rfl rfl ⟨_, ?_, k + 1, rfl, ?_, rfl, (by rw [dn2_no (by assumption)]; rfl)⟩
    ·omega
    ·omega
  ·try simp only [zq0, zq1, zq2, zq3, zq4, zq5, zq6, zq7, zq8, zq9, zqa, zqb, zqc, zqd, zqe, zqf] at hc3
   refine vc_exit ?_
   refine hK10 _ ?_
   refine vc_seq fun K17 hK17 => ?_
   refine vc_region ?_
   refine vo_move_ref rfl rfl ?_
   refine vo_assign_ref rfl rfl ?_
   refine vo_nil ?_
   refine hK17 _ ?_
   refine vc_ret ?_
   change retQ _ _ _ _ _
   refine retQ_sel [1] (srows := [_]) (.inr rfl) hC rfl rfl rfl rfl rfl rfl rfl ?_
   rw [show k = bases.length by omega]; exact ⟨_, rfl, rfl⟩


theorem subStep_sat {nl0 nl1 : Option Bool} {f0 f1 : Bool} {bases : List (List Int)} {regs : List (Int × Int)} {c : Int} (hbases : bases.length < 1000000000) (hlbases : ∀ l ∈ bases, l.length < 1000000000) (hregs : regs.length < 1000000000) : SatAt Try.prog 80 [i64 c, .ptr 0 0 0 0, .ptr 1 0 0 0] [Row.var 23 [.pv f0 (.sl nl0 1 (bases.map ints))], Row.var 43 [.pv f1 (.sl nl1 2 (regs.map pairP))]] (fun res rows => ∃ nl, res = [.ref 2] ∧ rows = [Row.var 23 [.pv f0 (.sl nl0 1 (bases.map ints))], Row.var 43 [.pv f1 (.sl nl1 2 (regs.map pairP))], Row.own 3 1 nl true ((dnM bases regs c).map intP)]) := by
 refine sat_entry_G (rs := [(4, none)]) Try.func80 rfl rfl (Nat.le_of_ble_eq_true rfl) (Nat.le_of_ble_eq_true rfl) (resTs1 trivial) fun C hC => ?_
 rw [Try.ntmps80]
 replace hC : C.nb = 2 := hC
 refine vc_seq fun K1 hK1 => ?_
 refine vc_region ?_
 refine vo_assign_pv rfl rfl ?_
 refine vo_nil ?_
 refine hK1 _ ?_
 refine vc_seq fun K2 hK2 => ?_
 refine vc_region ?_
 refine vo_load_var rfl rfl rfl Try.underlying23 rfl rfl ?_
 refine vo_load_var rfl rfl rfl Try.underlying43 rfl rfl ?_
 refine vo_move_pv rfl rfl ?_
 refine vo_call [] Try.func81 rfl rfl rfl rfl rfl rfl rfl (stepsDown_sat hbases hlbases hregs) ?_
 rintro _ _ ⟨nlu, rfl, rfl⟩
 refine ⟨Nat.le_of_ble_eq_true rfl, ⟨rfl, rfl, rfl, rfl⟩, .inl rfl, ?_⟩
 refine vo_stM ?_
 refine vo_assign_ref rfl rfl ?_
 refine vo_nil ?_
 refine hK2 _ ?_
 refine vc_ret ?_
 change retQ _ _ _ _ _
 refine retQ_sel [2] (srows := [_]) (.inr rfl) hC rfl rfl rfl rfl rfl rfl rfl ?_
 exact ⟨_, rfl, rfl⟩

set_option maxHeartbeats 4000000 in
theorem implIsSub_sat {nl0 : Option Bool} {bases : List (List Int)} {nl1 : Option Bool} {regs : List (Int × Int)} {a : Int} {b : Int} (hbases : bases.length < 1000000000) (hlbases : ∀ l ∈ bases, l.length < 1000000000) (hregs : regs.length < 1000000000)  : SatAt Try.prog 43 [.pv false (.sl nl0 1 (bases.map ints)), .pv false (.sl nl1 2 (regs.map pairP)), i64 a, i64 b] [] (fun res rows => res = [bo (decide (isSubM bases regs a b))] ∧ rows = []) := by
 refine sat_entry_G (rs := [(8, none)]) Try.func43 rfl rfl (Nat.le_of_ble_eq_true rfl) (Nat.le_of_ble_eq_true rfl) (resTs1 trivial) fun C hC => ?_
 rw [Try.ntmps43]
 replace hC : C.nb = 0 := hC
 refine vc_seq fun K1 hK1 => ?_
 refine vc_region ?_
 refine vo_boxG rfl rfl rfl ?_
 refine vo_stM ?_
 refine vo_boxG rfl rfl rfl ?_
 refine vo_stM ?_
 refine vo_assign_pv rfl rfl ?_
 refine vo_nil ?_
 refine hK1 _ ?_
 refine vc_seq fun K2 hK2 => ?_
 refine vc_seq fun K3 hK3 => ?_
 refine vc_region ?_
 refine vo_load_var rfl rfl rfl Try.underlying23 rfl rfl ?_
 refine vo_load_var rfl rfl rfl Try.underlying43 rfl rfl ?_
 refine vo_move_pv rfl rfl ?_
 refine vo_move_pv rfl rfl ?_
 refine vo_buildSlice E24 rfl rfl rfl rfl rfl ?_
 refine vo_stM ?_
 refine vo_expose 2 (by omega) rfl ?_
 refine vo_stM ?_
 refine vo_weaken 14 rfl ?_
 refine vo_stM ?_
 refine vo_call0 Try.func70 rfl rfl rfl rfl (hasRegs_sat (classes := [a, b]) hbases hlbases hregs (by simp)) ?_
 rintro _ _ ⟨rfl, rfl⟩
 refine ⟨rfl, rfl, .inl rfl, ?_⟩
 refine vo_stM ?_
 refine vo_not rfl rfl ?_
 refine vo_nil ?_
 refine hK3 _ ?_
 refine vc_cond rfl (fun hc1 => ?_) (fun hc1 => ?_)
 ·try simp only [zq0, zq1, zq2, zq3, zq4, zq5, zq6, zq7, zq8, zq9, zqa, zqb, zqc, zqd, zqe, zqf] at hc1
  refine vc_seq fun K4 hK4 => ?_
  refine vc_region ?_
  refine vo_assign_pv rfl rfl ?_
  refine vo_nil ?_
  refine hK4 _ ?_
  refine vc_ret ?_
  change retQ _ _ _ _ _
  refine retQ_sel [] (srows := []) (.inr rfl) hC rfl rfl rfl rfl rfl rfl rfl ?_
  refine ⟨(congrArg (fun b => [bo b]) (?_ : _ = _) : [bo _] = [bo _]), rfl⟩
  exact (decide_eq_false fun h => absurd h.1 (by assumption)).symm
 ·try simp only [zq0, zq1, zq2, zq3, zq4, zq5, zq6, zq7, zq8, zq9, zqa, zqb, zqc, zqd, zqe, zqf] at hc1
  have hV := hc1.1
  have hb12 := hV.1.2.1
  have har := hc1.2 a (by simp)
  have hbr := hc1.2 b (by simp)
  have hz0 : 0 ≤ b := hbr.1
  have hz1 : b < bases.length := by omega
  refine vc_skip ?_
  refine hK2 _ ?_
  refine vc_seq fun K5 hK5 => ?_
  refine vc_region ?_
  refine vo_move_pv rfl rfl ?_
  refine vo_makeFunc (ids := [0, 1]) rfl rfl ?_
  refine vo_stM ?_
  refine vo_inline [2] [(4, none)] Try.func71 rfl rfl rfl rfl (Nat.le_of_ble_eq_true rfl) (resTs1 trivial) rfl rfl fun us1 => ?_
  rw [Try.ntmps71]
  refine vc_stM ?_
  refine vc_seq fun K6 hK6 => ?_
  refine vc_region ?_
  refine vo_assign_pv rfl rfl ?_
  refine vo_nil ?_
  refine hK6 _ ?_
  refine vc_seq fun K7 hK7 => ?_
  refine vc_region ?_
  refine vo_move_pv rfl rfl ?_
  refine vo_buildSlice E24 rfl rfl rfl rfl rfl ?_
  refine vo_stM ?_
  refine vo_assign_ref rfl rfl ?_
  refine vo_nil ?_
  refine hK7 _ ?_
  refine vc_seq fun K8 hK8 => ?_
  refine vc_seq fun K9 hK9 => ?_
  refine vc_region ?_
  refine vo_assign_pv rfl rfl ?_
  refine vo_nil ?_
  refine hK9 _ ?_
  refine vc_block ?_
  refine vc_weakrow 4 rfl ?_
  refine vc_stM ?_
  refine vc_stM ?_
  refine vc_loopE [1] [5, 6] [4] _ _ (fun mz vs rs => ∃ (i : Nat) (met : List Int) (nlm : Option Bool), mz = 13 - i ∧ (MetOK bases.length met) ∧ (i ≤ met.length) ∧ (growM (dnM bases regs) (13 - i) met i = metD bases regs b) ∧ vs = [.ref 4, i64 i] ∧ rs = [Row.own 3 1 nlm true ((met).map intP)]) (13) rfl rfl (le_len hC rfl) ⟨rfl, rfl, rfl⟩ rfl ⟨0, [b], none, rfl, (met_one hz0 hz1), (by simp), rfl, rfl, rfl⟩ ?_
  rintro mz vs rs - - ⟨i, met, nlm, rfl, hm, hi, hg, rfl, rfl⟩
  refine vc_stM ?_
  refine vc_seq fun K10 hK10 => ?_
  refine vc_seq fun K11 hK11 => ?_
  refine vc_region ?_
  refine vo_move_pv rfl rfl ?_
  refine vo_move_ref rfl rfl ?_
  refine vo_len_ref rfl rfl rfl Try.underlying24 ?_
  refine vo_binI rfl rfl rfl rfl trivial ?_
  refine vo_nil ?_
  refine hK11 _ ?_
  refine vc_cond rfl (fun hci11 => ?_) (fun hci11 => ?_)
  ·try simp only [zq0, zq1, zq2, zq3, zq4, zq5, zq6, zq7, zq8, zq9, zqa, zqb, zqc, zqd, zqe, zqf] at hci11
   have hil : i < met.length := by omega
   have hml := hm.len
   have hul := dnM_lim hV (c := met.getD i 0)
   refine vc_skip ?_
   refine hK10 _ ?_
   refine vc_seq fun K12 hK12 => ?_
   refine vc_block ?_
   refine vc_region ?_
   refine vo_move_ref rfl rfl ?_
   refine vo_move rfl ?_
   refine vo_stM ?_
   refine vo_move_ref rfl rfl ?_
   refine vo_move_pv rfl rfl ?_
   refine vo_index_ref rfl rfl rfl rfl E24.und inf3 sz3 sd sd ?_
   try simp only [Int.toNat_natCast]
   refine vo_load_own rfl rfl rfl Try.underlying3 rfl sd (getD_ints _ _) rfl ?_
   try simp only [Int.toNat_natCast]
   refine vo_callF [0, 1] rfl Try.func80 rfl rfl rfl rfl rfl rfl rfl (subStep_sat hbases hlbases hregs) ?_
   rintro _ _ ⟨nlu, rfl, rfl⟩
   refine ⟨Nat.le_of_ble_eq_true rfl, ⟨rfl, rfl, rfl, rfl⟩, .inl rfl, ?_⟩
   refine vo_stM ?_
   refine vo_expose 5 (by omega) rfl ?_
   refine vo_stM ?_
   refine vo_weaken 21 rfl ?_
   refine vo_stM ?_
   refine vo_append E24 rfl (by omega) rfl rfl rfl sd sd ?_
   refine vo_stM ?_
   try simp only [app_ints, app_intss, app_bools, ← List.map_append]
   refine vo_call [] Try.func93 rfl rfl rfl rfl rfl rfl rfl (eachOnce_sat (list := met ++ (dnM bases regs (met.getD i 0))) (by rw [List.length_append]; omega)) ?_
   rintro _ _ ⟨nle, rfl, rfl⟩
   refine ⟨Nat.le_of_ble_eq_true rfl, ⟨rfl, rfl, rfl, rfl⟩, .inr ⟨rfl, rfl⟩, ?_⟩
   refine vo_stM ?_
   refine vo_assign_mv 4 6 rfl rfl (by decide) rfl (by omega) (by omega) rfl ?_
   refine vo_stM ?_
   refine vo_nil ?_
   refine hK12 _ ?_
   refine vc_region ?_
   refine vo_move_pv rfl rfl ?_
   refine vo_binI rfl rfl rfl rfl sd ?_
   refine vo_assign_pv rfl rfl ?_
   refine vo_nil ?_
   change againE _ _ _ _ _ _ _ _ _ _
   refine againE_mk rfl rfl rfl rfl rfl rfl ⟨_, ?_, i + 1, (onceF [] (met ++ (dnM bases regs (met.getD i 0)))), nle, rfl, ?_, ?_, ?_, rfl, rfl⟩
   ·omega
   ·rw [once_grow hm.1]; exact (growD_step hV hm).1
   ·rw [once_grow hm.1]; have := (growD_step (i := i) hV hm).2; omega
   ·rw [once_grow hm.1, ← growM_step hil (by omega)]; exact hg
  ·try simp only [zq0, zq1, zq2, zq3, zq4, zq5, zq6, zq7, zq8, zq9, zqa, zqb, zqc, zqd, zqe, zqf] at hci11
   have hfin : metD bases regs b = met := by rw [← hg, growM_end (by omega)]
   have hml := hm.len
   refine vc_exit ?_
   refine hK8 _ ?_
   refine vc_seq fun K13 hK13 => ?_
   refine vc_region ?_
   refine vo_move_ref rfl rfl ?_
   refine vo_assign_ref rfl rfl ?_
   refine vo_nil ?_
   refine hK13 _ ?_
   refine vc_ret ?_
   refine inQ_ret rfl rfl ?_
   refine vo_stM ?_
   refine vo_assign_ref rfl rfl ?_
   refine vo_nil ?_
   refine hK5 _ ?_
   refine vc_seq fun K14 hK14 => ?_
   refine vc_region ?_
   refine vo_move_ref rfl rfl ?_
   refine vo_move_pv rfl rfl ?_
   refine vo_call0 Try.func82 rfl rfl rfl rfl (Contains_sat (s := met) (by omega)) ?_
   rintro _ _ ⟨rfl, rfl⟩
   refine ⟨rfl, rfl, .inr rfl, ?_⟩
   refine vo_stM ?_
   refine vo_assign_pv rfl rfl ?_
   refine vo_nil ?_
   refine hK14 _ ?_
   refine vc_ret ?_
   change retQ _ _ _ _ _
   refine retQ_sel [] (srows := []) (.inr rfl) hC rfl rfl rfl rfl rfl rfl rfl ?_
   refine ⟨(congrArg (fun b => [bo b]) (?_ : _ = _) : [bo _] = [bo _]), rfl⟩
   exact decide_eq_decide.2 ⟨fun h => ⟨hc1, (down_up hV har.1 (by omega) hz0 hz1).1 (by rw [hfin]; exact h)⟩, fun h => by rw [← hfin]; exact (down_up hV har.1 (by omega) hz0 hz1).2 h.2⟩

end Go.Vl

namespace Go.Vl
set_option linter.unusedVariables false
set_option linter.unusedSimpArgs false
open Go.Proofs

/-- Asked down to a class of a list, no class twice on the way. -/
inductive Ask (T : List Int) (next : Int → List Int) : List Int → Int → Prop
  | hit {asked : List Int} {b : Int} (h : b ∈ T) : Ask T next asked b
  | step {asked : List Int} {b y : Int} (h1 : b ∉ asked) (h2 : y ∈ next b) (h3 : Ask T next (asked ++ [b]) y) : Ask T next asked b
noncomputable instance askDec (T : List Int) (next : Int → List Int) (asked : List Int) (b : Int) : Decidable (Ask T next asked b) := Classical.propDecidable _
theorem Ask.sound {T : List Int} {next : Int → List Int} {asked : List Int} {b : Int} (h : Ask T next asked b) : ∃ y ∈ T, Rch next b y := by
  induction h with
  | hit h => exact ⟨_, h, .refl _⟩
  | step h1 h2 _ ih => obtain ⟨y, hy, hr⟩ := ih; exact ⟨y, hy, .step h2 hr⟩
/-- A way of steps, each class once. -/
inductive Way (next : Int → List Int) : Int → List Int → Int → Prop
  | refl (c : Int) : Way next c [] c
  | step {c d x : Int} {l : List Int} (h : d ∈ next c) (h2 : Way next d l x) (h3 : c ∉ l) (h4 : c ≠ x) : Way next c (c :: l) x
theorem way_cut {next : Int → List Int} {d x c : Int} {l : List Int} (h : Way next d l x) : (c ∈ l ∨ c = x) → ∃ l2, Way next c l2 x := by
  induction h with
  | refl e => rintro (h | rfl); cases h; exact ⟨[], .refl _⟩
  | step h h2 h3 h4 ih =>
    rintro (h5 | rfl)
    · rcases List.mem_cons.1 h5 with rfl | h6
      · exact ⟨_, .step h h2 h3 h4⟩
      · exact ih (.inl h6)
    · exact ih (.inr rfl)
theorem way_of {next : Int → List Int} {c x : Int} (h : Rch next c x) : ∃ l, Way next c l x := by
  induction h with
  | refl c => exact ⟨[], .refl c⟩
  | @step c d x h _ ih =>
    obtain ⟨l, hl⟩ := ih
    by_cases h5 : c ∈ l ∨ c = x
    · exact way_cut hl h5
    · exact ⟨c :: l, .step h hl (fun h => h5 (.inl h)) (fun h => h5 (.inr h))⟩
theorem ask_way {T : List Int} {next : Int → List Int} {c x : Int} {l : List Int} (h : Way next c l x) (hx : x ∈ T) : ∀ asked : List Int, (∀ y ∈ l, y ∉ asked) → Ask T next asked c := by
  induction h with
  | refl => exact fun _ _ => .hit hx
  | @step c d x l h h2 h3 h4 ih =>
    intro asked ha
    refine .step (ha c (by simp)) h (ih hx _ fun y hy hm => ?_)
    rcases List.mem_append.1 hm with h5 | h5
    · exact ha y (List.mem_cons_of_mem _ hy) h5
    · rw [List.mem_singleton.1 h5] at hy; exact h3 hy
theorem ask_iff {T : List Int} {next : Int → List Int} {c : Int} : Ask T next [] c ↔ ∃ y ∈ T, Rch next c y := by
  constructor
  · exact Ask.sound
  · rintro ⟨y, hy, h⟩
    obtain ⟨l, hl⟩ := way_of h
    exact ask_way hl hy [] (by simp)
theorem isSub_ask {b : List (List Int)} {r : List (Int × Int)} (hV : VRegs b r) {a c : Int} (a0 : 0 ≤ a) (a1 : a < b.length) (c0 : 0 ≤ c) (c1 : c < b.length) : Ask (abvR b a) (dnM b r) [] c ↔ isSubM b r a c := by
  rw [ask_iff]
  have hab := sup_above hV a0 a1
  have hN := hV.none
  constructor
  · rintro ⟨y, hy, h⟩
    refine ⟨⟨hV, fun x hx => ?_⟩, ?_⟩
    · rcases List.mem_cons.1 hx with rfl | hx
      · omega
      · rw [List.mem_singleton.1 hx]; omega
    · rw [← hab, supM_mem hN a0 a1] at hy
      have h2 := met_sub hV a0 a1 (fun p hp => by cases hp) metU_self y hy
      have hyr := (metU_ok hV 13 0 [a] (met_one a0 a1)).2 y h2
      rw [metU_rch hV a0 a1] at h2 ⊢
      exact h2.trans (rch_dn hV h)
  · rintro ⟨_, h⟩
    refine ⟨a, by rw [← hab]; exact sup_self hN a0 a1, ?_⟩
    rw [metU_rch hV a0 a1] at h
    exact rch_up hV a0 a1 h
theorem ask_false {b : List (List Int)} {r : List (Int × Int)} (hV : VRegs b r) {T asked : List Int} {c : Int} (c0 : 0 ≤ c) (h1 : c ∉ T) (hr : ∀ j, j < r.length → (r.getD j (0, 0)).2 = c → ¬ Ask T (dnM b r) (asked ++ [c]) (r.getD j (0, 0)).1)
    (hb : ∀ j : Int, c < j → j < b.length → c ∈ b.getD j.toNat [] → ¬ Ask T (dnM b r) (asked ++ [c]) j) : ¬ Ask T (dnM b r) asked c := by
  intro h
  cases h with
  | hit h => exact h1 h
  | step h2 h3 h4 =>
    rename_i y
    have hy := (dnM_mem hV).1 h3
    unfold upM at hy
    rcases List.mem_append.1 hy.2 with h5 | h5
    · have := hV.1.bd' _ _ h5
      exact hb y (by omega) hy.1.2 h5 h4
    · obtain ⟨p, hp, e⟩ := List.mem_map.1 h5
      obtain ⟨hp1, hp2⟩ := List.mem_filter.1 hp
      obtain ⟨j, hj, e2⟩ := List.getElem_of_mem hp1
      have e3 : r.getD j (0, 0) = p := by rw [List.getD, List.getElem?_eq_getElem hj]; exact e2
      refine hr j hj (by rw [e3]; exact e) ?_
      rw [e3, of_decide_eq_true hp2]; exact h4
theorem ask_reg {b : List (List Int)} {r : List (Int × Int)} (hV : VRegs b r) {T asked : List Int} {c : Int} (h1 : c ∉ asked) {j : Nat} (hj : j < r.length) (e : (r.getD j (0, 0)).2 = c) (h : Ask T (dnM b r) (asked ++ [c]) (r.getD j (0, 0)).1) : Ask T (dnM b r) asked c := by
  refine .step h1 ?_ h
  unfold dnM dn1
  exact List.mem_append_left _ (List.mem_map.2 ⟨_, List.mem_filter.2 ⟨getD_mem hj (0, 0), by simpa using e⟩, rfl⟩)
theorem ask_base {b : List (List Int)} {r : List (Int × Int)} (hV : VRegs b r) {T asked : List Int} {c j : Int} (h1 : c ∉ asked) (j0 : 0 ≤ j) (j1 : j < b.length) (e : c ∈ b.getD j.toNat []) (h : Ask T (dnM b r) (asked ++ [c]) j) : Ask T (dnM b r) asked c :=
  .step h1 ((dnM_mem hV).2 ⟨⟨j0, j1⟩, List.mem_append_left _ e⟩) h
theorem metOK_snoc {n : Nat} {l : List Int} {c : Int} (h : MetOK n l) (hc : c ∉ l) (h0 : 0 ≤ c) (h1 : c < n) : MetOK n (l ++ [c]) := by
  refine ⟨List.nodup_append.2 ⟨h.1, by simp, fun a ha b hb e => hc (by rw [List.mem_singleton.1 hb] at e; rw [← e]; exact ha)⟩, fun y hy => ?_⟩
  rcases List.mem_append.1 hy with h3 | h3
  · exact h.2 y h3
  · rw [List.mem_singleton.1 h3]; exact ⟨h0, h1⟩

theorem above_satI {nl0 : Option Bool} {bases : List (List Int)} {c : Int} (hbases : bases.length < 1000000000) (hlbases : ∀ l ∈ bases, l.length < 1000000000) (hv : VB bases) (h0 : 0 ≤ c) (h1 : c < bases.length) : SatAt Try.prog 90 [.pv false (.sl nl0 1 (bases.map ints)), i64 c] [] (fun res rows => ∃ nl, res = [.ref 0] ∧ rows = [Row.own 3 1 nl true ((abvR bases c).map intP)]) := by
 obtain ⟨n, rfl⟩ := Int.eq_ofNat_of_zero_le h0
 rw [abvR_of hv (by omega)]; exact above_sat hbases hlbases hv (by omega)
set_option maxHeartbeats 4000000 in
theorem asks_step {nl0 nl1 nl4 : Option Bool} {bases : List (List Int)} {regs : List (Int × Int)} {a b : Int} {asked : List Int} (hbases : bases.length < 1000000000) (hlbases : ∀ l ∈ bases, l.length < 1000000000) (hregs : regs.length < 1000000000) (hV : VRegs bases regs) (ha0 : 0 ≤ a) (ha1 : a < bases.length) (hb0 : 0 ≤ b) (hb1 : b < bases.length) (hA : MetOK bases.length asked) (ih : ∀ (nl : Option Bool) (x : Int) (s : List Int), 0 ≤ x → x < bases.length → MetOK bases.length s → s.length = asked.length + 1 → SatAt Try.prog 83 [.pv false (.sl nl0 1 (bases.map ints)), .pv false (.sl nl1 2 (regs.map pairP)), i64 a, i64 x, .pv false (.sl nl 1 ((s).map intP))] [] (fun res rows => res = [bo (decide (Ask (abvR bases a) (dnM bases regs) s x))] ∧ rows = [])) : SatAt Try.prog 83 [.pv false (.sl nl0 1 (bases.map ints)), .pv false (.sl nl1 2 (regs.map pairP)), i64 a, i64 b, .pv false (.sl nl4 1 (asked.map intP))] [] (fun res rows => res = [bo (decide (Ask (abvR bases a) (dnM bases regs) asked b))] ∧ rows = []) := by
  have hal := hA.len
  have hb12 := hV.1.2.1
  have hr8 := hV.2.1
  have hbl : (abvR bases a).length < 1000000000 := abvR_len (by omega)
  refine sat_entry_G (rs := [(10, none)]) Try.func83 rfl rfl (Nat.le_of_ble_eq_true rfl) (Nat.le_of_ble_eq_true rfl) (resTs1 trivial) fun C hC => ?_
  rw [Try.ntmps83]
  replace hC : C.nb = 0 := hC
  refine vc_seq fun K1 hK1 => ?_
  refine vc_region ?_
  refine vo_assign_pv rfl rfl ?_
  refine vo_nil ?_
  refine hK1 _ ?_
  refine vc_seq fun K2 hK2 => ?_
  refine vc_seq fun K3 hK3 => ?_
  refine vc_region ?_
  refine vo_move_pv rfl rfl ?_
  refine vo_move_pv rfl rfl ?_
  refine vo_call [] Try.func90 rfl rfl rfl rfl rfl rfl rfl (above_satI hbases hlbases hV.1 ha0 ha1) ?_
  rintro _ _ ⟨nla, rfl, rfl⟩
  refine ⟨Nat.le_of_ble_eq_true rfl, ⟨rfl, rfl, rfl, rfl⟩, .inl rfl, ?_⟩
  refine vo_stM ?_
  refine vo_expose 0 (by omega) rfl ?_
  refine vo_stM ?_
  refine vo_weaken 15 rfl ?_
  refine vo_stM ?_
  refine vo_move_pv rfl rfl ?_
  refine vo_call0 Try.func91 rfl rfl rfl rfl (placeIn_sat (list := abvR bases a) hbl) ?_
  rintro _ _ ⟨rfl, rfl⟩
  refine ⟨rfl, rfl, .inl rfl, ?_⟩
  refine vo_stM ?_
  refine vo_binI rfl rfl rfl rfl trivial ?_
  refine vo_nil ?_
  refine hK3 _ ?_
  refine vc_cond rfl (fun hc1 => ?_) (fun hc1 => ?_)
  · try simp only [zq0, zq1, zq2, zq3, zq4, zq5, zq6, zq7, zq8, zq9, zqa, zqb, zqc, zqd, zqe, zqf] at hc1
    refine vc_seq fun K4 hK4 => ?_
    refine vc_region ?_
    refine vo_assign_pv rfl rfl ?_
    refine vo_nil ?_
    refine hK4 _ ?_
    refine vc_ret ?_
    change retQ _ _ _ _ _
    refine retQ_sel [] (srows := []) (.inr rfl) hC rfl rfl rfl rfl rfl rfl rfl ?_
    refine ⟨(congrArg (fun b => [bo b]) (?_ : _ = _) : [bo _] = [bo _]), rfl⟩
    exact bT (.hit ((findM_mem b _ 0 (by omega)).1 hc1))
  · try simp only [zq0, zq1, zq2, zq3, zq4, zq5, zq6, zq7, zq8, zq9, zqa, zqb, zqc, zqd, zqe, zqf] at hc1
    refine vc_skip ?_
    refine hK2 _ ?_
    refine vc_seq fun K5 hK5 => ?_
    refine vc_seq fun K6 hK6 => ?_
    refine vc_region ?_
    refine vo_move_pv rfl rfl ?_
    refine vo_move_pv rfl rfl ?_
    refine vo_call0 Try.func91 rfl rfl rfl rfl (placeIn_sat (list := asked) (by omega)) ?_
    rintro _ _ ⟨rfl, rfl⟩
    refine ⟨rfl, rfl, .inl rfl, ?_⟩
    refine vo_stM ?_
    refine vo_binI rfl rfl rfl rfl trivial ?_
    refine vo_nil ?_
    refine hK6 _ ?_
    refine vc_cond rfl (fun hc2 => ?_) (fun hc2 => ?_)
    · try simp only [zq0, zq1, zq2, zq3, zq4, zq5, zq6, zq7, zq8, zq9, zqa, zqb, zqc, zqd, zqe, zqf] at hc2
      refine vc_seq fun K7 hK7 => ?_
      refine vc_region ?_
      refine vo_assign_pv rfl rfl ?_
      refine vo_nil ?_
      refine hK7 _ ?_
      refine vc_ret ?_
      change retQ _ _ _ _ _
      refine retQ_sel [] (srows := []) (.inr rfl) hC rfl rfl rfl rfl rfl rfl rfl ?_
      refine ⟨(congrArg (fun b => [bo b]) (?_ : _ = _) : [bo _] = [bo _]), rfl⟩
      exact bF fun h => by
        cases h with
        | hit h => exact absurd ((findM_mem b _ 0 (by omega)).2 h) (by omega)
        | step h1 h2 h3 => exact h1 ((findM_mem b asked 0 (by omega)).1 hc2)
    · try simp only [zq0, zq1, zq2, zq3, zq4, zq5, zq6, zq7, zq8, zq9, zqa, zqb, zqc, zqd, zqe, zqf] at hc2
      have hbn : b ∉ asked := fun h => by have := (findM_mem b asked 0 (by omega)).2 h; omega
      have hbt : b ∉ abvR bases a := fun h => by have := (findM_mem b (abvR bases a) 0 (by omega)).2 h; omega
      have hS := metOK_snoc hA hbn hb0 hb1
      refine vc_skip ?_
      refine hK5 _ ?_
      refine vc_seq fun K8 hK8 => ?_
      refine vc_region ?_
      refine vo_move_pv rfl rfl ?_
      refine vo_call [] Try.func97 rfl rfl rfl rfl rfl rfl rfl (copyInts_sat (list := asked) (by omega)) ?_
      rintro _ _ ⟨nlc, rfl, rfl⟩
      refine ⟨Nat.le_of_ble_eq_true rfl, ⟨rfl, rfl, rfl, rfl⟩, .inl rfl, ?_⟩
      refine vo_stM ?_
      refine vo_move_pv rfl rfl ?_
      refine vo_buildSlice E24 rfl rfl rfl rfl rfl ?_
      refine vo_stM ?_
      refine vo_append E24 rfl (by omega) rfl rfl rfl sd sd ?_
      refine vo_stM ?_
      try simp only [app_ints, app_intss, app_bools]
      refine vo_assign_ref rfl rfl ?_
      refine vo_expose 1 (by omega) rfl ?_
      refine vo_stM ?_
      refine vo_weaken 4 rfl ?_
      refine vo_stM ?_
      refine vo_nil ?_
      refine hK8 _ ?_
      refine vc_seq fun K9 hK9 => ?_
      refine vc_seq fun K10 hK10 => ?_
      refine vc_region ?_
      refine vo_assign_pv rfl rfl ?_
      refine vo_nil ?_
      refine hK10 _ ?_
      refine vc_block ?_
      refine vc_stM ?_
      refine vc_loopE [0, 1, 2, 3, 4] [11] [] _ _ (fun mz vs rs => ∃ (k : Nat), mz = regs.length - k ∧ (k ≤ regs.length) ∧ (∀ j, j < k → (regs.getD j (0, 0)).2 = b → ¬ Ask (abvR bases a) (dnM bases regs) (asked ++ [b]) (regs.getD j (0, 0)).1) ∧ vs = [i64 k] ∧ rs = []) (regs.length) rfl rfl (le_len hC rfl) ⟨rfl, rfl, rfl⟩ rfl ⟨0, rfl, (Nat.zero_le _), (fun j hj => by omega), rfl, rfl⟩ ?_
      rintro mz vs rs - - ⟨k, rfl, hk, hf, rfl, rfl⟩
      refine vc_stM ?_
      refine vc_seq fun K11 hK11 => ?_
      refine vc_seq fun K12 hK12 => ?_
      refine vc_region ?_
      refine vo_move_pv rfl rfl ?_
      refine vo_move_pv rfl rfl ?_
      refine vo_len_pv rfl rfl Try.underlying43 ?_
      refine vo_binI rfl rfl rfl rfl trivial ?_
      refine vo_nil ?_
      refine hK12 _ ?_
      refine vc_cond rfl (fun hc3 => ?_) (fun hc3 => ?_)
      · try simp only [zq0, zq1, zq2, zq3, zq4, zq5, zq6, zq7, zq8, zq9, zqa, zqb, zqc, zqd, zqe, zqf] at hc3
        have hk9 := hV.2.2 _ (getD_mem (show k < regs.length by omega) (0, 0))
        unfold okReg at hk9
        have hkr : 0 ≤ (regs.getD k (0, 0)).1 ∧ (regs.getD k (0, 0)).1 < bases.length := ⟨hk9.1.1, by omega⟩
        refine vc_skip ?_
        refine hK11 _ ?_
        refine vc_seq fun K13 hK13 => ?_
        refine vc_block ?_
        refine vc_seq fun K14 hK14 => ?_
        refine vc_region ?_
        refine vo_move_pv rfl rfl ?_
        refine vo_move_pv rfl rfl ?_
        refine vo_index_pv (.agg [(.int .i64 0), (.int .i64 0)]) rfl rfl rfl E43.und inf85 sz85 sd sd ?_
        simp only [Int.toNat_natCast, Int.toNat_zero, getD_ints, getD_intss, getD_bools, getD_bytes, PV.cells, getD_pairs]
        refine vo_fieldAddr_adr rfl rfl Try.underlying85 rfl inf3 (by rw [sz3]; decide) ?_
        refine vo_load_adr rfl rfl Try.underlying3 rfl ?_
        refine vo_move_pv rfl rfl ?_
        refine vo_binI rfl rfl rfl rfl trivial ?_
        refine vo_move_pv rfl rfl ?_
        refine vo_split 41 rfl (fun hg4 => ?_) (fun hg4 => ?_)
        · try simp only [zq0, zq1, zq2, zq3, zq4, zq5, zq6, zq7, zq8, zq9, zqa, zqb, zqc, zqd, zqe, zqf] at hg4
          refine vo_guard_on rfl rfl rfl ?_
          refine vo_move_pv rfl rfl ?_
          refine vo_guard_on rfl rfl rfl ?_
          refine vo_move_pv rfl rfl ?_
          refine vo_guard_on rfl rfl rfl ?_
          refine vo_move_pv rfl rfl ?_
          refine vo_guard_on rfl rfl rfl ?_
          refine vo_move_pv rfl rfl ?_
          refine vo_guard_on rfl rfl rfl ?_
          refine vo_move_pv rfl rfl ?_
          refine vo_guard_on rfl rfl rfl ?_
          refine vo_index_pv (.agg [(.int .i64 0), (.int .i64 0)]) rfl rfl rfl E43.und inf85 sz85 sd sd ?_
          simp only [Int.toNat_natCast, Int.toNat_zero, getD_ints, getD_intss, getD_bools, getD_bytes, PV.cells, getD_pairs]
          refine vo_guard_on rfl rfl rfl ?_
          refine vo_fieldAddr_adr rfl rfl Try.underlying85 rfl inf3 (by rw [sz3]; decide) ?_
          refine vo_guard_on rfl rfl rfl ?_
          refine vo_load_adr rfl rfl Try.underlying3 rfl ?_
          refine vo_guard_on rfl rfl rfl ?_
          refine vo_move_pv rfl rfl ?_
          refine vo_guard_on rfl rfl rfl ?_
          refine vo_call0 Try.func83 rfl rfl rfl rfl (ih _ _ (asked ++ [b]) hkr.1 hkr.2 hS (by simp)) ?_
          rintro _ _ ⟨rfl, rfl⟩
          refine ⟨rfl, rfl, .inl rfl, ?_⟩
          refine vo_stM ?_
          refine vo_pick_t rfl rfl ?_
          refine vo_nil ?_
          refine hK14 _ ?_
          refine vc_cond rfl (fun hc5 => ?_) (fun hc5 => ?_)
          · try simp only [zq0, zq1, zq2, zq3, zq4, zq5, zq6, zq7, zq8, zq9, zqa, zqb, zqc, zqd, zqe, zqf] at hc5
            refine vc_seq fun K15 hK15 => ?_
            refine vc_region ?_
            refine vo_assign_pv rfl rfl ?_
            refine vo_nil ?_
            refine hK15 _ ?_
            refine vc_ret ?_
            change retQ _ _ _ _ _
            refine retQ_sel [] (srows := []) (.inr rfl) hC rfl rfl rfl rfl rfl rfl rfl ?_
            refine ⟨(congrArg (fun b => [bo b]) (?_ : _ = _) : [bo _] = [bo _]), rfl⟩
            exact bT (ask_reg hV hbn (show k < regs.length by omega) (by assumption) (by assumption))
          · try simp only [zq0, zq1, zq2, zq3, zq4, zq5, zq6, zq7, zq8, zq9, zqa, zqb, zqc, zqd, zqe, zqf] at hc5
            refine vc_skip ?_
            refine hK13 _ ?_
            refine vc_region ?_
            refine vo_move_pv rfl rfl ?_
            refine vo_binI rfl rfl rfl rfl sd ?_
            refine vo_assign_pv rfl rfl ?_
            refine vo_nil ?_
            change againE _ _ _ _ _ _ _ _ _ _
            refine againE_mk rfl rfl rfl rfl rfl rfl ⟨_, ?_, k + 1, rfl, ?_, ?_, rfl, rfl⟩
            · omega
            · omega
            · intro j hj he
              rcases Nat.lt_or_ge j k with h9 | h9
              · exact hf j h9 he
              · rw [show j = k by omega] at he ⊢
                first | assumption | exact absurd he (by assumption)
        · try simp only [zq0, zq1, zq2, zq3, zq4, zq5, zq6, zq7, zq8, zq9, zqa, zqb, zqc, zqd, zqe, zqf] at hg4
          refine vo_guard_off rfl rfl rfl rfl rfl ?_
          refine vo_guard_off rfl rfl rfl rfl rfl ?_
          refine vo_guard_off rfl rfl rfl rfl rfl ?_
          refine vo_guard_off rfl rfl rfl rfl rfl ?_
          refine vo_guard_off rfl rfl rfl rfl rfl ?_
          refine vo_guard_off rfl rfl rfl rfl rfl ?_
          refine vo_guard_off rfl rfl rfl rfl rfl ?_
          refine vo_guard_off rfl rfl rfl rfl rfl ?_
          refine vo_guard_off rfl rfl rfl rfl rfl ?_
          refine vo_guard_off rfl rfl rfl rfl rfl ?_
          refine vo_pick_f rfl rfl ?_
          refine vo_nil ?_
          refine hK14 _ ?_
          refine vc_cond_f rfl ?_
          refine vc_skip ?_
          refine hK13 _ ?_
          refine vc_region ?_
          refine vo_move_pv rfl rfl ?_
          refine vo_binI rfl rfl rfl rfl sd ?_
          refine vo_assign_pv rfl rfl ?_
          refine vo_nil ?_
          change againE _ _ _ _ _ _ _ _ _ _
          refine againE_mk rfl rfl rfl rfl rfl rfl ⟨_, ?_, k + 1, rfl, ?_, ?_, rfl, rfl⟩
          · omega
          · omega
          · intro j hj he
            rcases Nat.lt_or_ge j k with h9 | h9
            · exact hf j h9 he
            · rw [show j = k by omega] at he ⊢
              first | assumption | exact absurd he (by assumption)
      · try simp only [zq0, zq1, zq2, zq3, zq4, zq5, zq6, zq7, zq8, zq9, zqa, zqb, zqc, zqd, zqe, zqf] at hc3
        refine vc_exit ?_
        refine hK9 _ ?_
        refine vc_seq fun K16 hK16 => ?_
        refine vc_seq fun K17 hK17 => ?_
        refine vc_region ?_
        refine vo_move_pv rfl rfl ?_
        refine vo_binI rfl rfl rfl rfl sd ?_
        refine vo_assign_pv rfl rfl ?_
        refine vo_nil ?_
        refine hK17 _ ?_
        refine vc_block ?_
        refine vc_stM ?_
        refine vc_loopE [0, 1, 2, 3, 4] [12] [] _ _ (fun mz vs rs => ∃ (y : Int), mz = ((bases.length : Int) - y).toNat ∧ ((b + 1 ≤ y ∧ y ≤ bases.length)) ∧ (∀ j : Int, b < j → j < y → b ∈ bases.getD j.toNat [] → ¬ Ask (abvR bases a) (dnM bases regs) (asked ++ [b]) j) ∧ vs = [i64 y] ∧ rs = []) (((bases.length : Int) - (b + 1)).toNat) rfl rfl (le_len hC rfl) ⟨rfl, rfl, rfl⟩ rfl ⟨b + 1, rfl, (by omega), (fun j h1 h2 => by omega), rfl, rfl⟩ ?_
        rintro mz vs rs - - ⟨y, rfl, hy, hg, rfl, rfl⟩
        refine vc_stM ?_
        refine vc_seq fun K18 hK18 => ?_
        refine vc_seq fun K19 hK19 => ?_
        refine vc_region ?_
        refine vo_move_pv rfl rfl ?_
        refine vo_move_pv rfl rfl ?_
        refine vo_len_pv rfl rfl Try.underlying23 ?_
        refine vo_binI rfl rfl rfl rfl trivial ?_
        refine vo_nil ?_
        refine hK19 _ ?_
        refine vc_cond rfl (fun hc6 => ?_) (fun hc6 => ?_)
        · try simp only [zq0, zq1, zq2, zq3, zq4, zq5, zq6, zq7, zq8, zq9, zqa, zqb, zqc, zqd, zqe, zqf] at hc6
          refine vc_skip ?_
          refine hK18 _ ?_
          refine vc_seq fun K20 hK20 => ?_
          refine vc_block ?_
          refine vc_seq fun K21 hK21 => ?_
          refine vc_region ?_
          refine vo_move_pv rfl rfl ?_
          refine vo_move_pv rfl rfl ?_
          refine vo_index_pv (.sl none 1 []) rfl rfl rfl E23.und inf24 sz24 sd sd ?_
          simp only [Int.toNat_natCast, Int.toNat_zero, getD_ints, getD_intss, getD_bools, getD_bytes, PV.cells, getD_pairs]
          refine vo_load_adr rfl rfl Try.underlying24 rfl ?_
          refine vo_move_pv rfl rfl ?_
          refine vo_call0 Try.func91 rfl rfl rfl rfl (placeIn_sat (list := bases.getD y.toNat []) (hlbases _ (getD_mem (show y.toNat < bases.length by omega) []))) ?_
          rintro _ _ ⟨rfl, rfl⟩
          refine ⟨rfl, rfl, .inl rfl, ?_⟩
          refine vo_stM ?_
          refine vo_binI rfl rfl rfl rfl trivial ?_
          refine vo_move_pv rfl rfl ?_
          refine vo_split 68 rfl (fun hg7 => ?_) (fun hg7 => ?_)
          · try simp only [zq0, zq1, zq2, zq3, zq4, zq5, zq6, zq7, zq8, zq9, zqa, zqb, zqc, zqd, zqe, zqf] at hg7
            refine vo_guard_on rfl rfl rfl ?_
            refine vo_move_pv rfl rfl ?_
            refine vo_guard_on rfl rfl rfl ?_
            refine vo_move_pv rfl rfl ?_
            refine vo_guard_on rfl rfl rfl ?_
            refine vo_move_pv rfl rfl ?_
            refine vo_guard_on rfl rfl rfl ?_
            refine vo_move_pv rfl rfl ?_
            refine vo_guard_on rfl rfl rfl ?_
            refine vo_move_pv rfl rfl ?_
            refine vo_guard_on rfl rfl rfl ?_
            refine vo_call0 Try.func83 rfl rfl rfl rfl (ih _ y (asked ++ [b]) (by omega) (by omega) hS (by simp)) ?_
            rintro _ _ ⟨rfl, rfl⟩
            refine ⟨rfl, rfl, .inl rfl, ?_⟩
            refine vo_stM ?_
            refine vo_pick_t rfl rfl ?_
            refine vo_nil ?_
            refine hK21 _ ?_
            refine vc_cond rfl (fun hc8 => ?_) (fun hc8 => ?_)
            · try simp only [zq0, zq1, zq2, zq3, zq4, zq5, zq6, zq7, zq8, zq9, zqa, zqb, zqc, zqd, zqe, zqf] at hc8
              refine vc_seq fun K22 hK22 => ?_
              refine vc_region ?_
              refine vo_assign_pv rfl rfl ?_
              refine vo_nil ?_
              refine hK22 _ ?_
              refine vc_ret ?_
              change retQ _ _ _ _ _
              refine retQ_sel [] (srows := []) (.inr rfl) hC rfl rfl rfl rfl rfl rfl rfl ?_
              refine ⟨(congrArg (fun b => [bo b]) (?_ : _ = _) : [bo _] = [bo _]), rfl⟩
              exact bT (ask_base hV hbn (show 0 ≤ y by omega) (by omega) ((findM_mem b _ 0 (by omega)).1 (by assumption)) (by assumption))
            · try simp only [zq0, zq1, zq2, zq3, zq4, zq5, zq6, zq7, zq8, zq9, zqa, zqb, zqc, zqd, zqe, zqf] at hc8
              refine vc_skip ?_
              refine hK20 _ ?_
              refine vc_region ?_
              refine vo_move_pv rfl rfl ?_
              refine vo_binI rfl rfl rfl rfl sd ?_
              refine vo_assign_pv rfl rfl ?_
              refine vo_nil ?_
              change againE _ _ _ _ _ _ _ _ _ _
              refine againE_mk rfl rfl rfl rfl rfl rfl ⟨_, ?_, y + 1, rfl, ?_, ?_, rfl, rfl⟩
              · omega
              · omega
              · intro j h7 h8 he
                rcases Int.lt_or_le j y with h9 | h9
                · exact hg j h7 h9 he
                · have e9 : j = y := by omega
                  subst e9
                  first | assumption | (have := (findM_mem b _ 0 (by omega)).2 he; omega)
          · try simp only [zq0, zq1, zq2, zq3, zq4, zq5, zq6, zq7, zq8, zq9, zqa, zqb, zqc, zqd, zqe, zqf] at hg7
            refine vo_guard_off rfl rfl rfl rfl rfl ?_
            refine vo_guard_off rfl rfl rfl rfl rfl ?_
            refine vo_guard_off rfl rfl rfl rfl rfl ?_
            refine vo_guard_off rfl rfl rfl rfl rfl ?_
            refine vo_guard_off rfl rfl rfl rfl rfl ?_
            refine vo_guard_off rfl rfl rfl rfl rfl ?_
            refine vo_pick_f rfl rfl ?_
            refine vo_nil ?_
            refine hK21 _ ?_
            refine vc_cond_f rfl ?_
            refine vc_skip ?_
            refine hK20 _ ?_
            refine vc_region ?_
            refine vo_move_pv rfl rfl ?_
            refine vo_binI rfl rfl rfl rfl sd ?_
            refine vo_assign_pv rfl rfl ?_
            refine vo_nil ?_
            change againE _ _ _ _ _ _ _ _ _ _
            refine againE_mk rfl rfl rfl rfl rfl rfl ⟨_, ?_, y + 1, rfl, ?_, ?_, rfl, rfl⟩
            · omega
            · omega
            · intro j h7 h8 he
              rcases Int.lt_or_le j y with h9 | h9
              · exact hg j h7 h9 he
              · have e9 : j = y := by omega
                subst e9
                first | assumption | (have := (findM_mem b _ 0 (by omega)).2 he; omega)
        · try simp only [zq0, zq1, zq2, zq3, zq4, zq5, zq6, zq7, zq8, zq9, zqa, zqb, zqc, zqd, zqe, zqf] at hc6
          refine vc_exit ?_
          refine hK16 _ ?_
          refine vc_seq fun K23 hK23 => ?_
          refine vc_region ?_
          refine vo_assign_pv rfl rfl ?_
          refine vo_nil ?_
          refine hK23 _ ?_
          refine vc_ret ?_
          change retQ _ _ _ _ _
          refine retQ_sel [] (srows := []) (.inr rfl) hC rfl rfl rfl rfl rfl rfl rfl ?_
          refine ⟨(congrArg (fun b => [bo b]) (?_ : _ = _) : [bo _] = [bo _]), rfl⟩
          exact bF (ask_false hV hb0 hbt (fun j hj he => hf j (by omega) he) (fun j h7 h8 he => hg j h7 (by omega) he))

end Go.Vl

namespace Go.Vl
set_option linter.unusedVariables false
set_option linter.unusedSimpArgs false
open Go.Proofs

theorem asks_sat {nl0 nl1 : Option Bool} {bases : List (List Int)} {regs : List (Int × Int)} {a : Int} (hbases : bases.length < 1000000000) (hlbases : ∀ l ∈ bases, l.length < 1000000000) (hregs : regs.length < 1000000000) (hV : VRegs bases regs) (ha0 : 0 ≤ a) (ha1 : a < bases.length) :
  ∀ (m : Nat) (nl4 : Option Bool) (asked : List Int) (b : Int), 0 ≤ b → b < bases.length → MetOK bases.length asked → bases.length - asked.length ≤ m → SatAt Try.prog 83 [.pv false (.sl nl0 1 (bases.map ints)), .pv false (.sl nl1 2 (regs.map pairP)), i64 a, i64 b, .pv false (.sl nl4 1 ((asked).map intP))] [] (fun res rows => res = [bo (decide (Ask (abvR bases a) (dnM bases regs) asked b))] ∧ rows = []) := by
 intro m
 induction m with
 | zero =>
  intro nl4 asked b hb0 hb1 hA hm
  exact asks_step hbases hlbases hregs hV ha0 ha1 hb0 hb1 hA (fun nl x s _ _ hs hl => absurd hs.len (by omega))
 | succ m ih =>
  intro nl4 asked b hb0 hb1 hA hm
  exact asks_step hbases hlbases hregs hV ha0 ha1 hb0 hb1 hA (fun nl x s h0 h1 hs hl => ih nl s x h0 h1 hs (by omega))
theorem specIsSub_sat {nl0 : Option Bool} {bases : List (List Int)} {nl1 : Option Bool} {regs : List (Int × Int)} {a : Int} {b : Int} (hbases : bases.length < 1000000000) (hlbases : ∀ l ∈ bases, l.length < 1000000000) (hregs : regs.length < 1000000000)  : SatAt Try.prog 44 [.pv false (.sl nl0 1 (bases.map ints)), .pv false (.sl nl1 2 (regs.map pairP)), i64 a, i64 b] [] (fun res rows => res = [bo (decide (isSubM bases regs a b))] ∧ rows = []) := by
 refine sat_entry_G (rs := [(8, none)]) Try.func44 rfl rfl (Nat.le_of_ble_eq_true rfl) (Nat.le_of_ble_eq_true rfl) (resTs1 trivial) fun C hC => ?_
 rw [Try.ntmps44]
 replace hC : C.nb = 0 := hC
 refine vc_seq fun K1 hK1 => ?_
 refine vc_region ?_
 refine vo_assign_pv rfl rfl ?_
 refine vo_nil ?_
 refine hK1 _ ?_
 refine vc_seq fun K2 hK2 => ?_
 refine vc_region ?_
 refine vo_move_pv rfl rfl ?_
 refine vo_move_pv rfl rfl ?_
 refine vo_call0 Try.func75 rfl rfl rfl rfl (specValidRegs0_sat hbases hlbases hregs) ?_
 rintro _ _ ⟨rfl, rfl⟩
 refine ⟨rfl, rfl, .inl rfl, ?_⟩
 refine vo_stM ?_
 refine vo_move_pv rfl rfl ?_
 refine vo_split 12 rfl (fun hg1 => ?_) (fun hg1 => ?_)
 ·try simp only [zq0, zq1, zq2, zq3, zq4, zq5, zq6, zq7, zq8, zq9, zqa, zqb, zqc, zqd, zqe, zqf] at hg1
  refine vo_guard_on rfl rfl rfl ?_
  refine vo_move_pv rfl rfl ?_
  refine vo_guard_on rfl rfl rfl ?_
  refine vo_move_pv rfl rfl ?_
  refine vo_guard_on rfl rfl rfl ?_
  refine vo_len_pv rfl rfl Try.underlying23 ?_
  refine vo_guard_on rfl rfl rfl ?_
  refine vo_binI rfl rfl rfl rfl sd ?_
  refine vo_guard_on rfl rfl rfl ?_
  refine vo_call0 Try.func58 rfl rfl rfl rfl inRange_sat ?_
  rintro _ _ ⟨rfl, rfl⟩
  refine ⟨rfl, rfl, .inl rfl, ?_⟩
  refine vo_stM ?_
  refine vo_pick_t rfl rfl ?_
  refine vo_move_pv rfl rfl ?_
  refine vo_split 19 rfl (fun hg2 => ?_) (fun hg2 => ?_)
  ·try simp only [zq0, zq1, zq2, zq3, zq4, zq5, zq6, zq7, zq8, zq9, zqa, zqb, zqc, zqd, zqe, zqf] at hg2
   refine vo_guard_on rfl rfl rfl ?_
   refine vo_move_pv rfl rfl ?_
   refine vo_guard_on rfl rfl rfl ?_
   refine vo_move_pv rfl rfl ?_
   refine vo_guard_on rfl rfl rfl ?_
   refine vo_len_pv rfl rfl Try.underlying23 ?_
   refine vo_guard_on rfl rfl rfl ?_
   refine vo_binI rfl rfl rfl rfl sd ?_
   refine vo_guard_on rfl rfl rfl ?_
   refine vo_call0 Try.func58 rfl rfl rfl rfl inRange_sat ?_
   rintro _ _ ⟨rfl, rfl⟩
   refine ⟨rfl, rfl, .inl rfl, ?_⟩
   refine vo_stM ?_
   refine vo_pick_t rfl rfl ?_
   refine vo_move_pv rfl rfl ?_
   refine vo_split 26 rfl (fun hg3 => ?_) (fun hg3 => ?_)
   ·try simp only [zq0, zq1, zq2, zq3, zq4, zq5, zq6, zq7, zq8, zq9, zqa, zqb, zqc, zqd, zqe, zqf] at hg3
    refine vo_guard_on rfl rfl rfl ?_
    refine vo_move_pv rfl rfl ?_
    refine vo_guard_on rfl rfl rfl ?_
    refine vo_move_pv rfl rfl ?_
    refine vo_guard_on rfl rfl rfl ?_
    refine vo_move_pv rfl rfl ?_
    refine vo_guard_on rfl rfl rfl ?_
    refine vo_move_pv rfl rfl ?_
    refine vo_guard_on rfl rfl rfl ?_
    refine vo_buildSlice E24 rfl rfl rfl rfl rfl ?_
    refine vo_stM ?_
    refine vo_guard_on rfl rfl rfl ?_
    refine vo_expose 0 (by omega) rfl ?_
    refine vo_stM ?_
    refine vo_weaken 31 rfl ?_
    refine vo_stM ?_
    refine vo_call0 Try.func83 rfl rfl rfl rfl (asks_sat hbases hlbases hregs (by assumption) (by omega) (by omega) 12 _ [] b (by omega) (by omega) ⟨by simp, by simp⟩ (by have := (by assumption : VRegs bases regs).1.2.1; omega)) ?_
    rintro _ _ ⟨rfl, rfl⟩
    refine ⟨rfl, rfl, .inl rfl, ?_⟩
    refine vo_stM ?_
    refine vo_pick_t rfl rfl ?_
    refine vo_assign_pv rfl rfl ?_
    refine vo_nil ?_
    refine hK2 _ ?_
    refine vc_ret ?_
    change retQ _ _ _ _ _
    refine retQ_sel [] (srows := []) (.inr rfl) hC rfl rfl rfl rfl rfl rfl rfl ?_
    refine ⟨(congrArg (fun b => [bo b]) (?_ : _ = _) : [bo _] = [bo _]), rfl⟩
    first
     | exact decide_eq_decide.2 (isSub_ask (by assumption) (by omega) (by omega) (by omega) (by omega))
     | exact bF fun h => absurd h.1.1 (by assumption)
     | (exact bF fun h => (by have h2 := h.1.2 a (by simp); have h3 := h.1.2 b (by simp); omega))
   ·try simp only [zq0, zq1, zq2, zq3, zq4, zq5, zq6, zq7, zq8, zq9, zqa, zqb, zqc, zqd, zqe, zqf] at hg3
    refine vo_guard_off rfl rfl rfl rfl rfl ?_
    refine vo_guard_off rfl rfl rfl rfl rfl ?_
    refine vo_guard_off rfl rfl rfl rfl rfl ?_
    refine vo_guard_off rfl rfl rfl rfl rfl ?_
    refine vo_guard_off rfl rfl rfl rfl rfl ?_
    refine vo_guard_off rfl rfl rfl rfl rfl ?_
    refine vo_pick_f rfl rfl ?_
    refine vo_assign_pv rfl rfl ?_
    refine vo_nil ?_
    refine hK2 _ ?_
    refine vc_ret ?_
    change retQ _ _ _ _ _
    refine retQ_sel [] (srows := []) (.inr rfl) hC rfl rfl rfl rfl rfl rfl rfl ?_
    refine ⟨(congrArg (fun b => [bo b]) (?_ : _ = _) : [bo _] = [bo _]), rfl⟩
    first
     | exact decide_eq_decide.2 (isSub_ask (by assumption) (by omega) (by omega) (by omega) (by omega))
     | exact bF fun h => absurd h.1.1 (by assumption)
     | (exact bF fun h => (by have h2 := h.1.2 a (by simp); have h3 := h.1.2 b (by simp); omega))
  ·try simp only [zq0, zq1, zq2, zq3, zq4, zq5, zq6, zq7, zq8, zq9, zqa, zqb, zqc, zqd, zqe, zqf] at hg2
   refine vo_guard_off rfl rfl rfl rfl rfl ?_
   refine vo_guard_off rfl rfl rfl rfl rfl ?_
   refine vo_guard_off rfl rfl rfl rfl rfl ?_
   refine vo_guard_off rfl rfl rfl rfl rfl ?_
   refine vo_guard_off rfl rfl rfl rfl rfl ?_
   refine vo_pick_f rfl rfl ?_
   refine vo_move_pv rfl rfl ?_
   refine vo_guard_off rfl rfl rfl rfl rfl ?_
   refine vo_guard_off rfl rfl rfl rfl rfl ?_
   refine vo_guard_off rfl rfl rfl rfl rfl ?_
   refine vo_guard_off rfl rfl rfl rfl rfl ?_
   refine vo_guard_off rfl rfl rfl rfl rfl ?_
   refine vo_guard_off rfl rfl rfl rfl rfl ?_
   refine vo_pick_f rfl rfl ?_
   refine vo_assign_pv rfl rfl ?_
   refine vo_nil ?_
   refine hK2 _ ?_
   refine vc_ret ?_
   change retQ _ _ _ _ _
   refine retQ_sel [] (srows := []) (.inr rfl) hC rfl rfl rfl rfl rfl rfl rfl ?_
   refine ⟨(congrArg (fun b => [bo b]) (?_ : _ = _) : [bo _] = [bo _]), rfl⟩
   first
    | exact decide_eq_decide.2 (isSub_ask (by assumption) (by omega) (by omega) (by omega) (by omega))
    | exact bF fun h => absurd h.1.1 (by assumption)
    | (exact bF fun h => (by have h2 := h.1.2 a (by simp); have h3 := h.1.2 b (by simp); omega))
 ·try simp only [zq0, zq1, zq2, zq3, zq4, zq5, zq6, zq7, zq8, zq9, zqa, zqb, zqc, zqd, zqe, zqf] at hg1
  refine vo_guard_off rfl rfl rfl rfl rfl ?_
  refine vo_guard_off rfl rfl rfl rfl rfl ?_
  refine vo_guard_off rfl rfl rfl rfl rfl ?_
  refine vo_guard_off rfl rfl rfl rfl rfl ?_
  refine vo_guard_off rfl rfl rfl rfl rfl ?_
  refine vo_pick_f rfl rfl ?_
  refine vo_move_pv rfl rfl ?_
  refine vo_guard_off rfl rfl rfl rfl rfl ?_
  refine vo_guard_off rfl rfl rfl rfl rfl ?_
  refine vo_guard_off rfl rfl rfl rfl rfl ?_
  refine vo_guard_off rfl rfl rfl rfl rfl ?_
  refine vo_guard_off rfl rfl rfl rfl rfl ?_
  refine vo_pick_f rfl rfl ?_
  refine vo_move_pv rfl rfl ?_
  refine vo_guard_off rfl rfl rfl rfl rfl ?_
  refine vo_guard_off rfl rfl rfl rfl rfl ?_
  refine vo_guard_off rfl rfl rfl rfl rfl ?_
  refine vo_guard_off rfl rfl rfl rfl rfl ?_
  refine vo_guard_off rfl rfl rfl rfl rfl ?_
  refine vo_guard_off rfl rfl rfl rfl rfl ?_
  refine vo_pick_f rfl rfl ?_
  refine vo_assign_pv rfl rfl ?_
  refine vo_nil ?_
  refine hK2 _ ?_
  refine vc_ret ?_
  change retQ _ _ _ _ _
  refine retQ_sel [] (srows := []) (.inr rfl) hC rfl rfl rfl rfl rfl rfl rfl ?_
  refine ⟨(congrArg (fun b => [bo b]) (?_ : _ = _) : [bo _] = [bo _]), rfl⟩
  first
   | exact decide_eq_decide.2 (isSub_ask (by assumption) (by omega) (by omega) (by omega) (by omega))
   | exact bF fun h => absurd h.1.1 (by assumption)
   | (exact bF fun h => (by have h2 := h.1.2 a (by simp); have h3 := h.1.2 b (by simp); omega))


theorem FnExactIsSub_sat {nl0 : Option Bool} {a : List (List Int)} {nl1 : Option Bool} {b : List (Int × Int)} {c : Int} {d : Int}  (ha : a.length ≤ 9223372036854775807 ∧ ∀ l ∈ a, (l.length ≤ 9223372036854775807 ∧ ∀ x ∈ l, i64R x)) (hb : b.length ≤ 9223372036854775807 ∧ ∀ a ∈ b, True) : SatAt Try.prog 12 [.pv false (.sl nl0 1 (a.map ints)), .pv false (.sl nl1 2 (b.map pairP)), i64 c, i64 d] [] (fun res rows => res = [bo true] ∧ rows = []) := by
 refine sat_entry_G (rs := [(8, none)]) Try.func12 rfl rfl (Nat.le_of_ble_eq_true rfl) (Nat.le_of_ble_eq_true rfl) (resTs1 trivial) fun C hC => ?_
 rw [Try.ntmps12]
 replace hC : C.nb = 0 := hC
 refine vc_seq fun K1 hK1 => ?_
 refine vc_region ?_
 refine vo_assign_pv rfl rfl ?_
 refine vo_nil ?_
 refine hK1 _ ?_
 refine vc_seq fun K2 hK2 => ?_
 refine vc_region ?_
 refine vo_assign_pv rfl rfl ?_
 refine vo_nil ?_
 refine hK2 _ ?_
 refine vc_seq fun K3 hK3 => ?_
 refine vc_region ?_
 refine vo_move_pv rfl rfl ?_
 refine vo_move_pv rfl rfl ?_
 refine vo_call0 Try.func22 rfl rfl rfl rfl (szIntSS_sat ha.1 (fun l hl => (ha.2 l hl).1) (by omega) (by omega)) ?_
 rintro _ _ ⟨v, hv, rfl, rfl⟩
 refine ⟨rfl, rfl, .inl rfl, ?_⟩
 refine vo_stM ?_
 refine vo_assign_pv rfl rfl ?_
 refine vo_nil ?_
 refine hK3 _ ?_
 refine vc_seq fun K4 hK4 => ?_
 refine vc_seq fun K5 hK5 => ?_
 refine vc_region ?_
 refine vo_move_pv rfl rfl ?_
 refine vo_binI rfl rfl rfl rfl trivial ?_
 refine vo_nil ?_
 refine hK5 _ ?_
 refine vc_cond rfl (fun hc1 => ?_) (fun hc1 => ?_)
 ·try simp only [zq0, zq1, zq2, zq3, zq4, zq5, zq6, zq7, zq8, zq9, zqa, zqb, zqc, zqd, zqe, zqf] at hc1
  refine vc_seq fun K6 hK6 => ?_
  refine vc_region ?_
  refine vo_assign_pv rfl rfl ?_
  refine vo_nil ?_
  refine hK6 _ ?_
  refine vc_ret ?_
  change retQ _ _ _ _ _
  refine retQ_sel [] (srows := []) (.inr rfl) hC rfl rfl rfl rfl rfl rfl rfl ?_
  exact ⟨rfl, rfl⟩
 ·try simp only [zq0, zq1, zq2, zq3, zq4, zq5, zq6, zq7, zq8, zq9, zqa, zqb, zqc, zqd, zqe, zqf] at hc1
  rcases hv with hv | hv
  ·omega
  obtain ⟨hv1, hv2, hv3⟩ := hv
  have hs3 : ∀ l ∈ a, l.length < 1000000000 := fun l hl => by have := hv3 l hl; omega
  refine vc_skip ?_
  refine hK4 _ ?_
  refine vc_seq fun K7 hK7 => ?_
  refine vc_region ?_
  refine vo_move_pv rfl rfl ?_
  refine vo_move_pv rfl rfl ?_
  refine vo_call0 Try.func38 rfl rfl rfl rfl (szRegS_sat hb.1 (by omega)) ?_
  rintro _ _ ⟨rfl, rfl⟩
  refine ⟨rfl, rfl, .inl rfl, ?_⟩
  refine vo_stM ?_
  refine vo_assign_pv rfl rfl ?_
  refine vo_nil ?_
  refine hK7 _ ?_
  refine vc_seq fun K8 hK8 => ?_
  refine vc_seq fun K9 hK9 => ?_
  refine vc_region ?_
  refine vo_move_pv rfl rfl ?_
  refine vo_binI rfl rfl rfl rfl trivial ?_
  refine vo_nil ?_
  refine hK9 _ ?_
  refine vc_cond rfl (fun hc2 => ?_) (fun hc2 => ?_)
  ·try simp only [zq0, zq1, zq2, zq3, zq4, zq5, zq6, zq7, zq8, zq9, zqa, zqb, zqc, zqd, zqe, zqf] at hc2
   refine vc_seq fun K10 hK10 => ?_
   refine vc_region ?_
   refine vo_assign_pv rfl rfl ?_
   refine vo_nil ?_
   refine hK10 _ ?_
   refine vc_ret ?_
   change retQ _ _ _ _ _
   refine retQ_sel [] (srows := []) (.inr rfl) hC rfl rfl rfl rfl rfl rfl rfl ?_
   first | exact ⟨rfl, rfl⟩ | (exfalso; simp_all; done) | (exfalso; omega)
  ·try simp only [zq0, zq1, zq2, zq3, zq4, zq5, zq6, zq7, zq8, zq9, zqa, zqb, zqc, zqd, zqe, zqf] at hc2
   refine vc_skip ?_
   refine hK8 _ ?_
   refine vc_seq fun K11 hK11 => ?_
   refine vc_region ?_
   refine vo_move_pv rfl rfl ?_
   refine vo_call [] Try.func23 rfl rfl rfl rfl rfl rfl rfl (toIntSS_sat (by omega) hs3) ?_
   rintro _ _ ⟨rfl, rfl⟩
   refine ⟨Nat.le_of_ble_eq_true rfl, ⟨rfl, rfl, rfl, rfl⟩, .inl rfl, ?_⟩
   refine vo_stM ?_
   refine vo_expose 0 (by omega) rfl ?_
   refine vo_stM ?_
   refine vo_weaken 25 rfl ?_
   refine vo_stM ?_
   refine vo_move_pv rfl rfl ?_
   refine vo_call0 Try.func39 rfl rfl rfl rfl (toRegS_sat (by omega)) ?_
   rintro _ _ ⟨rfl, rfl⟩
   refine ⟨rfl, rfl, .inl rfl, ?_⟩
   refine vo_stM ?_
   refine vo_move_pv rfl rfl ?_
   refine vo_move_pv rfl rfl ?_
   refine vo_call0 Try.func44 rfl rfl rfl rfl (specIsSub_sat (by omega) hs3 (by omega)) ?_
   rintro _ _ ⟨rfl, rfl⟩
   refine ⟨rfl, rfl, .inl rfl, ?_⟩
   refine vo_stM ?_
   refine vo_assign_pv rfl rfl ?_
   refine vo_nil ?_
   refine hK11 _ ?_
   refine vc_seq fun K12 hK12 => ?_
   refine vc_region ?_
   refine vo_move_pv rfl rfl ?_
   refine vo_call [] Try.func23 rfl rfl rfl rfl rfl rfl rfl (toIntSS_sat (by omega) hs3) ?_
   rintro _ _ ⟨rfl, rfl⟩
   refine ⟨Nat.le_of_ble_eq_true rfl, ⟨rfl, rfl, rfl, rfl⟩, .inl rfl, ?_⟩
   refine vo_stM ?_
   refine vo_expose 1 (by omega) rfl ?_
   refine vo_stM ?_
   refine vo_weaken 32 rfl ?_
   refine vo_stM ?_
   refine vo_assign_pv rfl rfl ?_
   refine vo_nil ?_
   refine hK12 _ ?_
   refine vc_seq fun K13 hK13 => ?_
   refine vc_region ?_
   refine vo_move_pv rfl rfl ?_
   refine vo_call0 Try.func39 rfl rfl rfl rfl (toRegS_sat (by omega)) ?_
   rintro _ _ ⟨rfl, rfl⟩
   refine ⟨rfl, rfl, .inl rfl, ?_⟩
   refine vo_stM ?_
   refine vo_assign_pv rfl rfl ?_
   refine vo_nil ?_
   refine hK13 _ ?_
   refine vc_seq fun K14 hK14 => ?_
   refine vc_region ?_
   refine vo_move_pv rfl rfl ?_
   refine vo_move_pv rfl rfl ?_
   refine vo_move_pv rfl rfl ?_
   refine vo_move_pv rfl rfl ?_
   refine vo_call0 Try.func43 rfl rfl rfl rfl (implIsSub_sat (by omega) hs3 (by omega)) ?_
   rintro _ _ ⟨rfl, rfl⟩
   refine ⟨rfl, rfl, .inl rfl, ?_⟩
   refine vo_stM ?_
   refine vo_assign_pv rfl rfl ?_
   refine vo_nil ?_
   refine hK14 _ ?_
   refine vc_seq fun K15 hK15 => ?_
   refine vc_seq fun K16 hK16 => ?_
   refine vc_region ?_
   refine vo_move_pv rfl rfl ?_
   refine vo_move_pv rfl rfl ?_
   refine vo_binB rfl rfl rfl rfl Try.underlying4 ?_
   refine vo_nil ?_
   refine hK16 _ ?_
   refine vc_cond rfl (fun hc3 => ?_) (fun hc3 => ?_)
   ·try simp only [zq0, zq1, zq2, zq3, zq4, zq5, zq6, zq7, zq8, zq9, zqa, zqb, zqc, zqd, zqe, zqf] at hc3
    refine vc_seq fun K17 hK17 => ?_
    refine vc_region ?_
    refine vo_assign_pv rfl rfl ?_
    refine vo_nil ?_
    refine hK17 _ ?_
    refine vc_ret ?_
    change retQ _ _ _ _ _
    refine retQ_sel [] (srows := []) (.inr rfl) hC rfl rfl rfl rfl rfl rfl rfl ?_
    first | exact ⟨rfl, rfl⟩ | (exfalso; simp_all; done) | (exfalso; omega)
   ·try simp only [zq0, zq1, zq2, zq3, zq4, zq5, zq6, zq7, zq8, zq9, zqa, zqb, zqc, zqd, zqe, zqf] at hc3
    refine vc_skip ?_
    refine hK15 _ ?_
    refine vc_seq fun K18 hK18 => ?_
    refine vc_seq fun K19 hK19 => ?_
    refine vc_region ?_
    refine vo_move_pv rfl rfl ?_
    refine vo_move_pv rfl rfl ?_
    refine vo_call [] Try.func23 rfl rfl rfl rfl rfl rfl rfl (toIntSS_sat (by omega) hs3) ?_
    rintro _ _ ⟨rfl, rfl⟩
    refine ⟨Nat.le_of_ble_eq_true rfl, ⟨rfl, rfl, rfl, rfl⟩, .inl rfl, ?_⟩
    refine vo_stM ?_
    refine vo_expose 2 (by omega) rfl ?_
    refine vo_stM ?_
    refine vo_weaken 45 rfl ?_
    refine vo_stM ?_
    refine vo_call0 Try.func25 rfl rfl rfl rfl (eqIntSS_sat (by omega) hs3 (by omega) hs3) ?_
    rintro _ _ ⟨rfl, rfl⟩
    refine ⟨rfl, rfl, .inl rfl, ?_⟩
    refine vo_stM ?_
    refine vo_not rfl rfl ?_
    refine vo_nil ?_
    refine hK19 _ ?_
    refine vc_cond rfl (fun hc4 => ?_) (fun hc4 => ?_)
    ·try simp only [zq0, zq1, zq2, zq3, zq4, zq5, zq6, zq7, zq8, zq9, zqa, zqb, zqc, zqd, zqe, zqf] at hc4
     refine vc_seq fun K20 hK20 => ?_
     refine vc_region ?_
     refine vo_assign_pv rfl rfl ?_
     refine vo_nil ?_
     refine hK20 _ ?_
     refine vc_ret ?_
     change retQ _ _ _ _ _
     refine retQ_sel [] (srows := []) (.inr rfl) hC rfl rfl rfl rfl rfl rfl rfl ?_
     first | exact ⟨rfl, rfl⟩ | (exfalso; simp_all; done) | (exfalso; omega)
    ·try simp only [zq0, zq1, zq2, zq3, zq4, zq5, zq6, zq7, zq8, zq9, zqa, zqb, zqc, zqd, zqe, zqf] at hc4
     refine vc_skip ?_
     refine hK18 _ ?_
     refine vc_seq fun K21 hK21 => ?_
     refine vc_seq fun K22 hK22 => ?_
     refine vc_region ?_
     refine vo_move_pv rfl rfl ?_
     refine vo_move_pv rfl rfl ?_
     refine vo_call0 Try.func39 rfl rfl rfl rfl (toRegS_sat (by omega)) ?_
     rintro _ _ ⟨rfl, rfl⟩
     refine ⟨rfl, rfl, .inl rfl, ?_⟩
     refine vo_stM ?_
     refine vo_call0 Try.func40 rfl rfl rfl rfl (eqRegS_sat (by omega) (by omega)) ?_
     rintro _ _ ⟨rfl, rfl⟩
     refine ⟨rfl, rfl, .inl rfl, ?_⟩
     refine vo_stM ?_
     refine vo_not rfl rfl ?_
     refine vo_nil ?_
     refine hK22 _ ?_
     refine vc_cond rfl (fun hc5 => ?_) (fun hc5 => ?_)
     ·try simp only [zq0, zq1, zq2, zq3, zq4, zq5, zq6, zq7, zq8, zq9, zqa, zqb, zqc, zqd, zqe, zqf] at hc5
      refine vc_seq fun K23 hK23 => ?_
      refine vc_region ?_
      refine vo_assign_pv rfl rfl ?_
      refine vo_nil ?_
      refine hK23 _ ?_
      refine vc_ret ?_
      change retQ _ _ _ _ _
      refine retQ_sel [] (srows := []) (.inr rfl) hC rfl rfl rfl rfl rfl rfl rfl ?_
      first | exact ⟨rfl, rfl⟩ | (exfalso; simp_all; done) | (exfalso; omega)
     ·try simp only [zq0, zq1, zq2, zq3, zq4, zq5, zq6, zq7, zq8, zq9, zqa, zqb, zqc, zqd, zqe, zqf] at hc5
      refine vc_skip ?_
      refine hK21 _ ?_
      refine vc_seq fun K24 hK24 => ?_
      refine vc_region ?_
      refine vo_assign_pv rfl rfl ?_
      refine vo_nil ?_
      refine hK24 _ ?_
      refine vc_ret ?_
      change retQ _ _ _ _ _
      refine retQ_sel [] (srows := []) (.inr rfl) hC rfl rfl rfl rfl rfl rfl rfl ?_
      first | exact ⟨rfl, rfl⟩ | (exfalso; simp_all; done) | (exfalso; omega)

end Go.Vl
