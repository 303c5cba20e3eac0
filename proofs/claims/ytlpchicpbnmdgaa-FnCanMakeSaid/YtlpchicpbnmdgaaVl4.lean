/- Part 4 of the texts that the proof of FnCanMake is built on. -/
import Derived.Test.YtlpchicpbnmdgaaVl3
import Derived.MapKept
import Derived.Test.YtlpchicpbnmdgaaProg
import Derived.KernelRfl
import Derived.ProofKit
import Derived.OpenShut
import Derived.Below
import Derived.Deep.Matrix
import Derived.ChangeArms
import Derived.ChangeSame
/- Literals of elements whose slices are their own; 'append' of them; their plain cells. -/
namespace Go.Vl
set_option linter.unusedVariables false
set_option linter.unusedSimpArgs false
open Go.RowKit

section
variable {P : Program} {C : Ctx} {Q : Go.Exit → St → Prop} {s : St} {ops : Array Oper} {rest : List Oper} {t : Nat} {ty : TypeId} {pos : String} {af : Array Edge}

/-- A slice of one element, whose slices' rows go with it. -/
theorem vo_build_treeG {T el e by' k0 : Nat} {d p : PV} {y : Operand} {ys : List SV} {ps : List PV} (hI : ElInfo P T el e by' d) (ht : Nat.blt t s.n = true)
    (hy : cellsG (getO s.env y) = some ys) (hok : okG s.rows (getO s.env y) = true) (hps : pvTs s.rows ys = some ps) (hpc : p.cells = ps) (hfp : fitsB e p = true) (hsm : Nat.ble e 1000 = true)
    (hC : C.nb = k0) (hk : (refsOf ys).all (fun k => Nat.ble k0 k) = true) (hnd : (refsOf ys).Nodup)
    (next : VO P C ops rest Q ⟨s.n, (t, .ref s.rows.length) :: s.env, deadAll (refsOf ys) s.rows ++ [.tree el e (some false) none [p]]⟩) :
    VO P C ops (⟨some t, .buildSlice T 1 #[(0, y)], ty, pos, af, none⟩ :: rest) Q s := by
  obtain ⟨hT, ⟨inf, z, hinf, hsz, hbytes, hz, hzs, hzr⟩, hdf, he⟩ := hI
  refine vo_value (s1 := ⟨s.n, s.env, deadAll (refsOf ys) s.rows ++ [Row.tree el e (some false) none [p]]⟩) (sv := .ref s.rows.length) ht (fun m a w hs => ?_) next
  obtain ⟨hvl, _, hone1⟩ := hs.cellsG hy hok
  obtain ⟨hTc, hlv⟩ := hs.putT hy hok hps
  obtain ⟨hyl, _⟩ := pvTs_get hps
  have hfp := fits_of hfp
  have hsm := Nat.le_of_ble_eq_true hsm
  have hple : ps.length = e := by rw [← hpc]; exact hfp.1
  have hysv : (a.eval y).cells.size = e := by omega
  rw [List.all_eq_true] at hk
  have hnbk : ∀ k, k ∈ refsOf ys → C.nb ≤ k := fun k h => by rw [hC]; exact Nat.le_of_ble_eq_true (hk k h)
  generalize hvs : (a.eval y).cells = vs at *
  let w1 := w.alloc (.cells vs el)
  have hrun : (execOp a.eval ⟨some t, .buildSlice T 1 #[(0, y)], ty, pos, af, none⟩).run P w = .ok (.value (.slice (some ⟨w.heap.size, 0, none⟩) 1 1)) w1 := by
    have hf := Great.fill_whole he [a.eval y] ((Array.range (1 * e)).map (z.cells[· % z.cells.size]!)) (by intro v hv; rw [List.mem_singleton.1 hv, hvs]; exact hysv) (by simp)
    have hpl : (#[(0, y)].map fun (i, x) => (i, a.eval x)).toList = ([a.eval y].zipIdx 0).map fun x => (x.2, x.1) := by simp
    have hvv : ([a.eval y].flatMap fun v => v.cells.toList).toArray = vs := by simp [hvs]
    have := run_buildSlice (P := P) w T el 1 (#[(0, y)].map fun (i, x) => (i, a.eval x)) vs inf z hT hinf hz (by rw [hsz]; omega) (by rw [hsz]; omega) (by rw [hsz, hpl, hf, hvv])
    simp only [execOp, Sem.run_bind, this, Result.andThen_ok]
    rfl
  have hheap : w1.heap[w.heap.size]? = some (.cells vs el (0, 0)) := heap_alloc_new w _
  have hgrow := World.grownBy_alloc w (.cells vs el) none
  have hown1 : w1.ownsRow 0 el e (.slice (some ⟨w.heap.size, 0, none⟩) 1 1) 1 vs.toList := ⟨by simp [hysv], .inr ⟨w.heap.size, 1, vs, rfl, Nat.zero_le _, hheap, Nat.le_refl _, by simp [maxLen], by simp [hysv], by rw [Nat.one_mul]; exact List.take_of_length_le (by simp [hysv])⟩⟩
  let N := s.rows.length
  let Sf' : Nat → Nat → Prop := fun q b' => sOf m ys q b'
  let S' : Nat → Prop := fun b' => b' = w.heap.size ∨ ∃ q, Sf' q b'
  let mv' : MV := ⟨.slice (some ⟨w.heap.size, 0, none⟩) 1 1, S'⟩
  let m' : Nat → MV := updM m N mv'
  let rows' := deadAll (refsOf ys) s.rows ++ [Row.tree el e (some false) none [p]]
  have hlen' : rows'.length = N + 1 := by simp [rows', deadAll_len, N]
  have hmI : m' N = mv' := updM_same ..
  have hmO : ∀ j, j ≠ N → m' j = m j := fun j h => updM_ne _ _ h
  have hrk : ∀ j b', sOf m ys j b' → ∃ k, ys[j]? = some (.ref k) ∧ k ∈ refsOf ys ∧ liveAt s.rows k ∧ (m k).S b' := fun j b' ⟨k, h3, h4⟩ => ⟨k, h3, mem_refsOf h3, hlv j k h3, h4⟩
  have hlive : ∀ j, liveAt rows' j → j = N ∨ (j < N ∧ j ∉ refsOf ys ∧ liveAt s.rows j) := by
    intro j ⟨q, hq, hv⟩
    simp only [rows'] at hq
    rw [List.getElem?_append] at hq
    split at hq
    · rename_i hlt
      rw [deadAll_len] at hlt
      rcases deadAll_get _ _ _ _ hq with ⟨_, h4⟩ | ⟨h3, h4⟩
      · subst h4; cases hv
      · exact .inr ⟨hlt, h3, q, h4, hv⟩
    · rename_i hge
      rw [deadAll_len] at hge hq
      rcases Nat.lt_or_ge (j - s.rows.length) 1 with h1 | h1
      · left; show j = s.rows.length; omega
      · rw [List.getElem?_eq_none (by simpa using h1)] at hq; cases hq
  have hsrc : ∀ j b', liveAt rows' j → (m' j).S b' → (j = N ∧ b' = w.heap.size) ∨ ∃ k, liveAt s.rows k ∧ (m k).S b' ∧ ((k = j ∧ j < N ∧ j ∉ refsOf ys) ∨ (j = N ∧ k ∈ refsOf ys)) := by
    intro j b' hl hb'
    rcases hlive j hl with rfl | ⟨h3, h4, h5⟩
    · rw [hmI] at hb'
      rcases hb' with h6 | ⟨q, h6⟩
      · exact .inl ⟨rfl, h6⟩
      · obtain ⟨k, _, h7, h8, h9⟩ := hrk _ _ h6
        exact .inr ⟨k, h8, h9, .inr ⟨rfl, h7⟩⟩
    · rw [hmO j (by omega)] at hb'
      exact .inr ⟨j, h5, hb', .inl ⟨rfl, h3, h4⟩⟩
  refine ⟨_, _, m', hrun, hs.remap hgrow (fun b h => by cases h) rows' m' (by rw [hlen']; exact Nat.le_succ _) (fun j hj => by rw [hmO j (by show j ≠ s.rows.length; omega)]) (fun j hj => hmO j (by have := hs.nbl; show j ≠ s.rows.length; omega)) (fun j b' hl hb' => ?_) ?_ ?_, ?_⟩
  · rcases hsrc j b' hl hb' with ⟨_, h4⟩ | ⟨k, h3, h4, h5⟩
    · right; omega
    · exact .inl ⟨k, h3, h4, fun h6 => by
        rcases h5 with ⟨rfl, _⟩ | ⟨_, h5⟩
        · exact h6
        · exact hnbk k h5⟩
  · intro j1 j2 b' g1 g2 c1 c2
    rcases hsrc j1 b' g1 c1 with ⟨rfl, a1⟩ | ⟨k1, a1, a2, a3⟩ <;> rcases hsrc j2 b' g2 c2 with ⟨rfl, d1⟩ | ⟨k2, d1, d2, d3⟩
    · rfl
    · have := hs.lt d1 d2; omega
    · have := hs.lt a1 a2; omega
    · have e0 := hs.dist k1 k2 b' a1 d1 a2 d2
      subst e0
      rcases a3 with ⟨a3, a4, a5⟩ | ⟨a3, a4⟩ <;> rcases d3 with ⟨d3, d4, d5⟩ | ⟨d3, d4⟩
      · omega
      · subst a3; exact (a5 d4).elim
      · subst d3; exact (d5 a4).elim
      · omega
  · intro hG j q hq
    change rows'[j]? = some q at hq
    simp only [rows'] at hq
    rw [List.getElem?_append] at hq
    split at hq
    · rename_i hlt
      rw [deadAll_len] at hlt
      rcases deadAll_get _ _ _ _ hq with ⟨_, h4⟩ | ⟨h3, h4⟩
      · subst h4; exact .dead _
      · rw [hmO j (by show j ≠ s.rows.length; omega)]
        exact (hs.rows j q h4).monoV hG (by rw [hlen']; exact Nat.le_succ _) (fun j hj => by rw [hmO j (by show j ≠ s.rows.length; omega)]) (fun hl b' hb' => hgrow.block b' (hs.lt ⟨q, h4, hl⟩ hb') (by simp))
    · rename_i hge
      rw [deadAll_len] at hge hq
      have hj : j = s.rows.length := by
        rcases Nat.lt_or_ge (j - s.rows.length) 1 with h1 | h1
        · omega
        · rw [List.getElem?_eq_none (by simpa using h1)] at hq; cases hq
      subst hj
      simp at hq
      subst hq
      show RowOK _ _ _ _ (m' N) _
      rw [hmI]
      refine .tree mv' el e (some false) none [p] vs.toList Sf' hown1 (fun h => by cases h) (fun _ h => by cases h) (fun k y' hy' => ?_) (fun k y' jj c u hy' hc hu => .inl ?_) ?_ ?_ ?_ (fun b' => ?_) (fun _ _ h => by cases h)
      · match k, hy' with
        | 0, hy' => cases hy'; exact hfp
      · match k, hy' with
        | 0, hy' =>
          cases hy'
          rw [hpc] at hc
          have hu' : vs[jj]? = some u := by simpa using hu
          rw [Nat.zero_mul, Nat.zero_add]
          refine (hTc jj c u hc hu').mono fun b' hb' => ?_
          obtain ⟨k, _, h6, h7, h8⟩ := hrk _ _ hb'
          exact hgrow.block b' (hs.lt h7 h8) (by simp)
      · intro q q' b' h3 h4
        obtain ⟨k, g1, g2, g3, g4⟩ := hrk _ _ h3
        obtain ⟨k', g1', g2', g3', g4'⟩ := hrk _ _ h4
        have e2 := hs.dist k k' b' g3 g3' g4 g4'
        subst e2
        exact refsOf_inj hnd g1 g1'
      · intro q b' h3 h4
        obtain ⟨k, g1, g2, g3, g4⟩ := hrk _ _ h3
        have := hs.lt g3 g4
        simp [mv', blk] at h4
        omega
      · intro q b' h3 h4
        obtain ⟨k, g1, g2, g3, g4⟩ := hrk _ _ h4
        have := (List.getElem?_eq_some_iff.1 g1).1
        simp at h3
        omega
      · constructor
        · rintro (h | h)
          · left; rw [h]; rfl
          · exact .inr h
        · rintro (h | h)
          · left; simp [mv', blk] at h; exact h.symm
          · exact .inr h
  · have := RS.ref (w := w1) (G := Gd C rows' m' w1) (m := m') (N := rows'.length) N (by rw [hlen']; omega)
    rw [hmI] at this
    exact this

/-- 'append' of such a slice to a row whose slices are its own. -/
theorem vo_append_treeG {x y : Operand} {id k T el e by' : Nat} {nl nly : Option Bool} {xs ys : List PV} {d : PV} (hI : ElInfo P T el e by' d) (ht : Nat.blt t s.n = true) (hnb : C.nb ≤ id) (hnk : C.nb ≤ k) (hne : Nat.beq id k = false)
    (hx : getO s.env x = .ref id) (hrow : s.rows[id]? = some (.tree el e nl none xs)) (hy : getO s.env y = .ref k) (hrk : s.rows[k]? = some (.tree el e nly none ys))
    (hby : (xs.length + ys.length) * by' ≤ 140737488355328) (hmx : xs.length + ys.length ≤ 9223372036854775807) (hys : 0 < ys.length)
    (next : VO P C ops rest Q ⟨s.n, (t, .ref id) :: killE id s.env, ((s.rows.map (Row.kill id)).set k .dead).set id (Row.tree el e (if nl = some false then some false else none) none (xs ++ ys))⟩) :
    VO P C ops (⟨some t, .call ⟨.builtin .append, #[x, y], #[T, T]⟩, ty, pos, af, none⟩ :: rest) Q s := by
  obtain ⟨hT, ⟨inf, z, hinf, hsz, hbytes, hz, hzs, hzr⟩, hdf, he⟩ := hI
  refine vo_value (s1 := ⟨s.n, killE id s.env, ((s.rows.map (Row.kill id)).set k .dead).set id (Row.tree el e (if nl = some false then some false else none) none (xs ++ ys))⟩) (sv := .ref id) ht (fun m a w hs => ?_) next
  have hne : id ≠ k := fun e => by subst e; rw [Nat.beq_refl] at hne; cases hne
  obtain ⟨hvx, hidl⟩ := hs.row hx
  obtain ⟨hvy, hkl⟩ := hs.row hy
  have hlid : liveAt s.rows id := ⟨_, hrow, rfl⟩
  have hlk : liveAt s.rows k := ⟨_, hrk, rfl⟩
  have hR := hs.rows id _ hrow
  have hK := hs.rows k _ hrk
  have hdist := hs.dist
  have hlti : ∀ b, (m id).S b → b < w.heap.size := fun b h => hs.lt hlid h
  have hltk : ∀ b, (m k).S b → b < w.heap.size := fun b h => hs.lt hlk h
  generalize hmi : m id = vi at *
  generalize hmk : m k = vk at *
  cases hR with
  | tree vi t1 e1 nl1 h1' xs1 vals Sf hown h1 h2 hw hr hd hn hz1 hS hkn =>
    cases hK with
    | tree vk t2 e2 nl2 h2' ys1 vals2 Sf2 hown2 k1 k2 hw2 hr2 hd2 hn2 hz2 hS2 hkn2 =>
      have hl1 : vals.length = xs.length * e := hown.1
      have hl2 : vals2.length = ys.length * e := hown2.1
      rcases hown2.2 with ⟨ey, hn0⟩ | ⟨g2, cap2, cur2, ey, h02, hh2, hle2, hmx2, hsz2, htk2⟩
      · omega
      · have hcell2 := World.ownsRow.cells hown2 (show vk.v.ownBlock = some g2 by rw [ey]; rfl)
        have hone2 : ∀ u ∈ vals2, u.oneCell' = true := by
          intro u hu
          obtain ⟨q, hq⟩ := List.getElem?_of_mem hu
          have hq1 : q < ys.length * e := by rw [← hl2]; exact (List.getElem?_eq_some_iff.1 hq).1
          obtain ⟨x0, c0, u0, hx0, hc0, hu0, e0⟩ := cellAt hown2 hw2 hq1
          have := hr2 _ x0 _ c0 u0 hx0 hc0 hu0
          rw [e0] at hu0
          rw [hq] at hu0
          cases hu0
          exact this.oneCell
        obtain ⟨v', w', hrun, hown', hg, hnil, hblk⟩ := run_append_own_at (P := P) w 0 T ty el inf z e by' hT hinf hz hsz hbytes hzs he vi.v xs.length vals hown ⟨g2, 0, none⟩ ys.length cap2 vals2 hl2 hcell2 hone2
          (by simpa [maxLen] using hmx) hby (Nat.zero_le _)
        have hvb : vi.v.ownBlock = blk vi.v := by
          rcases hown.2 with ⟨e, _⟩ | ⟨g, cp, cur, e, _⟩ <;> rw [e] <;> rfl
        have hv'b : v'.ownBlock = blk v' := by
          rcases hown'.2 with ⟨e, _⟩ | ⟨g, cp, cur, e, _⟩ <;> rw [e] <;> rfl
        have hrun' : (Builtin.append_ #[T, T] ty #[a.eval x, a.eval y]).run P w = .ok v' w' := by
          rw [hvx, hvy, ey]; exact hrun
        have hblk2 : ∀ b, blk v' = some b → vi.S b ∨ w.heap.size ≤ b := by
          intro b hb
          rw [← hv'b] at hb
          rcases hblk with h3 | h3
          · left; refine (hS b).2 (.inl ?_); rw [← hvb, ← h3]; exact hb
          · right; rw [h3] at hb; cases hb; exact Nat.le_refl _
        have hdisj : ∀ b, vi.S b → vk.S b → False := fun b h3 h4 => hne (hdist id k b hlid hlk (by rw [hmi]; exact h3) (by rw [hmk]; exact h4))
        let Sf' : Nat → Nat → Prop := fun q b => if q < xs.length * e then Sf q b else Sf2 (q - xs.length * e) b
        have hSfi : ∀ q b, Sf q b → vi.S b := fun q b h => (hS b).2 (.inr ⟨q, h⟩)
        have hSfk : ∀ q b, Sf2 q b → vk.S b := fun q b h => (hS2 b).2 (.inr ⟨q, h⟩)
        have hj := hs.joinRow (w' := w') (bo := blk vi.v) hne hlid hlk hnb hnk (fun b hb => by rw [hmi]; exact (hS b).2 (.inl hb)) (by rw [← hvb]; exact hg) (.tree el e (if nl = some false then some false else none) none (xs ++ ys)) ⟨v', fun b => blk v' = some b ∨ ∃ q, Sf' q b⟩
          (fun b hb => by
            rw [hmi, hmk]
            rcases hb with hb | ⟨q, hb⟩
            · rcases hblk2 b hb with h3 | h3
              · exact .inl h3
              · exact .inr (.inr h3)
            · simp only [Sf'] at hb
              split at hb
              · exact .inl (hSfi _ _ hb)
              · exact .inr (.inl (hSfk _ _ hb))) (fun hG => by
            refine .tree ⟨v', fun b => blk v' = some b ∨ ∃ q, Sf' q b⟩ el e _ none (xs ++ ys) (vals ++ vals2) Sf' (by simpa using hown') (fun h => by split at h <;> simp at h) (fun h => ?_) (fits_append hw hw2) ?_ ?_ ?_ ?_ (fun b => Iff.rfl) (fun _ _ h => by cases h)
            · split at h
              · rename_i hnl
                intro hv'
                exact h2 hnl (hnil.1 hv').1
              · simp at h
            · intro i x jj c u hx hc hu
              have hjj : jj < e := by
                have hf := fits_append hw hw2 i x hx
                rw [← hf.1]; exact (List.getElem?_eq_some_iff.1 hc).1
              rw [List.getElem?_append] at hx hu
              refine .inl ?_
              rcases Nat.lt_or_ge i xs.length with hi | hi
              · rw [if_pos hi] at hx
                have hq : i * e + jj < xs.length * e := by
                  have := Nat.mul_le_mul_right e (show i + 1 ≤ xs.length by omega)
                  rw [Nat.add_mul] at this
                  omega
                rw [if_pos (by omega)] at hu
                have hSi : Sf' (i * e + jj) = Sf (i * e + jj) := by funext b; show (if _ then _ else _) = _; rw [if_pos hq]
                rw [hSi]
                exact ((hr i x jj c u hx hc hu).tp).mono fun b hb => hg.block b (hlti b (hSfi _ _ hb)) (fun e => hn _ b hb (by rw [← hvb]; exact e.symm))
              · rw [if_neg (by omega)] at hx
                have hq : xs.length * e ≤ i * e + jj := by
                  have := Nat.mul_le_mul_right e hi
                  omega
                have hq2 : i * e + jj - xs.length * e = (i - xs.length) * e + jj := by
                  rw [Nat.sub_mul]
                  have := Nat.mul_le_mul_right e hi
                  omega
                rw [if_neg (by omega), hl1, hq2] at hu
                have hSi : Sf' (i * e + jj) = Sf2 ((i - xs.length) * e + jj) := by funext b; show (if _ then _ else _) = _; rw [if_neg (by omega), hq2]
                rw [hSi]
                exact ((hr2 (i - xs.length) x jj c u hx hc hu).tp).mono fun b hb => hg.block b (hltk b (hSfk _ _ hb)) (fun e => hdisj b ((hS b).2 (.inl (by rw [← hvb]; exact e.symm))) (hSfk _ _ hb))
            · intro q q' b h3 h4
              simp only [Sf'] at h3 h4
              split at h3 <;> split at h4
              · exact hd q q' b h3 h4
              · exact (hdisj b (hSfi _ _ h3) (hSfk _ _ h4)).elim
              · exact (hdisj b (hSfi _ _ h4) (hSfk _ _ h3)).elim
              · have := hd2 _ _ b h3 h4; omega
            · intro q b h3 h4
              have h5 : b < w.heap.size := by
                simp only [Sf'] at h3
                split at h3
                · exact hlti b (hSfi _ _ h3)
                · exact hltk b (hSfk _ _ h3)
              rw [← hv'b] at h4
              rcases hblk with h6 | h6
              · rw [h6, hvb] at h4
                simp only [Sf'] at h3
                split at h3
                · exact hn q b h3 h4
                · exact hdisj b ((hS b).2 (.inl h4)) (hSfk _ _ h3)
              · rw [h6] at h4; cases h4; omega
            · intro q b h3 h4
              simp only [Sf'] at h4
              rw [List.length_append, Nat.add_mul] at h3
              split at h4
              · omega
              · exact hz2 _ b (by omega) h4)
        refine ⟨v', w', _, by simp [execOp, resolve, invoke, builtin, hrun'], hj, ?_⟩
        have := RS.ref (w := w') (G := Gd C (((s.rows.map (Row.kill id)).set k .dead).set id (Row.tree el e (if nl = some false then some false else none) none (xs ++ ys))) (updM m id ⟨v', fun b => blk v' = some b ∨ ∃ q, Sf' q b⟩) w') (m := updM m id ⟨v', fun b => blk v' = some b ∨ ∃ q, Sf' q b⟩)
          (N := (((s.rows.map (Row.kill id)).set k .dead).set id (Row.tree el e (if nl = some false then some false else none) none (xs ++ ys))).length) id (by simpa using hidl)
        rw [updM_same] at this
        exact this

theorem SimM.weaktree {m : Nat → MV} {a : Act} {w : World} (hs : SimM C s m a w) {id R e : Nat} {nl : Option Bool} {xs : List PV} (hrow : s.rows[id]? = some (.tree R e nl none xs)) : SimM C ⟨s.n, s.env, s.rows.set id (.tree R e none none xs)⟩ m a w := by
  have hlid : liveAt s.rows id := ⟨_, hrow, rfl⟩
  refine hs.storeRow (w' := w) hlid (bo := none) (fun b h => by cases h) (grown_refl w) _ (fun hG => ?_)
  have := (hs.rows id _ hrow).mono hG (Nat.le_refl _) (fun _ _ => rfl) (fun _ _ _ => rfl)
  generalize m id = mv at this ⊢
  cases this with
  | tree mv t' e nl h xs vals Sf hown h1 h2 hw hr hd hn hz hS hkn =>
    exact .tree _ _ _ none none _ vals Sf hown (fun h => by cases h) (fun h => by cases h) hw hr hd hn hz hS hkn

theorem vo_weaktree {l : List Oper} (id : Nat) {R e : Nat} {nl : Option Bool} {xs : List PV} (hrow : s.rows[id]? = some (.tree R e nl none xs)) (next : VO P C ops l Q ⟨s.n, s.env, s.rows.set id (.tree R e none none xs)⟩) : VO P C ops l Q s :=
  fun a w ⟨m, hs⟩ => next a w ⟨m, hs.weaktree hrow⟩
theorem vc_weaktree {code : Code} (id : Nat) {R e : Nat} {nl : Option Bool} {xs : List PV} (hrow : s.rows[id]? = some (.tree R e nl none xs)) (next : VC P C code Q ⟨s.n, s.env, s.rows.set id (.tree R e none none xs)⟩) : VC P C code Q s :=
  fun a w ⟨m, hs⟩ => next a w ⟨m, hs.weaktree hrow⟩
end
end Go.Vl

/- Maps from numbers to numbers that the call made itself. -/
namespace Go.Vl
set_option linter.unusedVariables false
set_option linter.unusedSimpArgs false
open Go.RowKit

def mapI (h : Int → Option Int) : Int → Option PV := fun k => (h k).map intP
def updI (h : Int → Option Int) (k v : Int) : Int → Option Int := fun j => if j = k then some v else h j
def delI (h : Int → Option Int) (k : Int) : Int → Option Int := fun j => if j = k then none else h j
def nilI : Int → Option Int := fun _ => none

section
variable {P : Program} {C : Ctx} {Q : Go.Exit → St → Prop} {s : St} {ops : Array Oper} {rest : List Oper} {t : Nat} {ty : TypeId} {pos : String} {af : Array Edge}

end
end Go.Vl

/- Parts of a slice of the call's own: 'append(x[:i], x[j:]...)', a slice cut shorter, 'clear' behind its end. -/
namespace Go.Vl
set_option linter.unusedVariables false
set_option linter.unusedSimpArgs false
open Go.RowKit

theorem sliceBounds_ok {P : Program} {C : Ctx} {s : St} {m : Nat → MV} {a : Act} {w w1 : World} (hs : SimM C s m a w) {lo hi : Option Operand} {l' h' len cap d : Nat}
    (hl : bnd s.env lo 0 = some (l' : Int)) (hh : bnd s.env hi d = some (h' : Int)) (hd : hi = none → len = d) (h1 : l' ≤ h') (h2 : h' ≤ cap) : (Instr.sliceBounds true len cap (lo.map a.eval) (hi.map a.eval) none).run P w1 = .ok (l', h', cap) w1 := by
  have r1 : ∀ y code, l' ≤ y → ∀ o, lo = some o → (Instr.sliceBound (a.eval o) y code).run P w1 = .ok l' w1 := by
    intro y code hy o ho
    subst ho
    simp only [bnd] at hl
    split at hl
    · rename_i f' k' n' he
      simp at hl
      subst hl
      have := hs.bnd_run (P := P) (w1 := w1) (y := y) (code := code) he (by omega) (by omega)
      simpa using this
    · simp at hl
  have r2 : ∀ y code, h' ≤ y → ∀ o, hi = some o → (Instr.sliceBound (a.eval o) y code).run P w1 = .ok h' w1 := by
    intro y code hy o ho
    subst ho
    simp only [bnd] at hh
    split at hh
    · rename_i f' k' n' he
      simp at hh
      subst hh
      have := hs.bnd_run (P := P) (w1 := w1) (y := y) (code := code) he (by omega) (by omega)
      simpa using this
    · simp at hh
  cases lo with
  | none =>
    simp [bnd] at hl
    cases hi with
    | none => have := hd rfl; simp [bnd] at hh; simp [Instr.sliceBounds]; omega
    | some o => simp [Instr.sliceBounds, r2 _ _ h2 o rfl]; omega
  | some ol =>
    cases hi with
    | none =>
      have := hd rfl
      simp [bnd] at hh
      have hh : len = h' := by omega
      subst hh
      simp [Instr.sliceBounds, r1 len _ h1 ol rfl]
    | some o => simp [Instr.sliceBounds, r2 _ _ h2 o rfl, r1 h' _ h1 ol rfl]

section
variable {P : Program} {C : Ctx} {Q : Go.Exit → St → Prop} {s : St} {ops : Array Oper} {rest : List Oper} {t : Nat} {ty : TypeId} {pos : String} {af : Array Edge}

theorem addr_mul (b q : Nat) : (⟨b, 0, none⟩ : Addr).add q = ⟨b, q, none⟩ := by
  unfold Addr.add
  split
  · rename_i h; simp [h]
  · simp

/-- A part of a row that is a slice. -/
theorem lt_slice_ref {x : Operand} {lo hi : Option Operand} {id R e : Nat} {nl : Option Bool} {xs : List PV} {T el : TypeId} {inf : TypeInfo} {l h : Int}
    (hx : getO s.env x = .ref id) (hrow : (s.rows[id]?).bind Row.sl = some (R, e, nl, xs)) (hl : bnd s.env lo 0 = some l) (hh : bnd s.env hi xs.length = some h)
    (hT : P.underlying T = some (.slice el)) (hinf : P.info? el = some inf) (hsz : inf.size = e) (h0 : 0 ≤ l) (h1 : l ≤ h) (h2 : h ≤ xs.length) :
    Lt P C s ⟨some t, .slice T x lo hi none, ty, pos, af, none⟩ (.sub id e l.toNat h.toNat xs.length) := by
  intro m a w hs
  obtain ⟨hv, hid⟩ := hs.row hx
  obtain ⟨⟨vals, hown⟩, _, _, _⟩ := hs.sl hrow
  obtain ⟨l', rfl⟩ := Int.eq_ofNat_of_zero_le h0
  obtain ⟨h', rfl⟩ := Int.eq_ofNat_of_zero_le (Int.le_trans h0 h1)
  simp only [Int.toNat_natCast]
  have g1 : l' ≤ h' := by omega
  have g2 : h' ≤ xs.length := by omega
  rcases hown.2 with ⟨e0, hn0⟩ | ⟨g, cap, cur, e0, _, hh', hle, hmx, hsz', htk⟩
  · have hb := fun w1 => sliceBounds_ok (P := P) (w1 := w1) (len := 0) (cap := 0) hs hl hh (fun _ => hn0.symm) g1 (by omega)
    have hl0 : l' = 0 := by omega
    have hh0 : h' = 0 := by omega
    subst hl0; subst hh0
    rw [e0] at hv
    refine ⟨.slice none 0 0, fun w1 _ => ?_, .sub id e 0 0 xs.length _ hid (.inl ⟨e0, rfl, rfl, hn0, rfl⟩)⟩
    simp [execOp, Instr.sliceAt, Instr.slice, run_underlying hT, hv, hb w1, sizeOf, typeInfo, hinf, hsz]
  · have hb := fun w1 => sliceBounds_ok (P := P) (w1 := w1) (len := xs.length) (cap := cap) hs hl hh (fun _ => rfl) g1 (by omega)
    rw [e0] at hv
    refine ⟨.slice (some (if cap = l' then ⟨g, 0, none⟩ else ⟨g, l' * e, none⟩)) (h' - l') (cap - l'), fun w1 _ => ?_, .sub id e l' h' xs.length _ hid (.inr ⟨g, xs.length, cap, e0, g1, g2, hle, rfl⟩)⟩
    have hA : (if cap = l' then some (⟨g, 0, none⟩ : Addr) else some ((⟨g, 0, none⟩ : Addr).add (l' * e))) = some (if cap = l' then ⟨g, 0, none⟩ else ⟨g, l' * e, none⟩) := by
      split <;> simp [addr_mul]
    simp [execOp, Instr.sliceAt, Instr.slice, run_underlying hT, hv, hb w1, sizeOf, typeInfo, hinf, hsz, hA]

theorem vo_slice_ref {x : Operand} {lo hi : Option Operand} {id R e : Nat} {nl : Option Bool} {xs : List PV} {T el : TypeId} {inf : TypeInfo} {l h : Int} (ht : Nat.blt t s.n = true)
    (hx : getO s.env x = .ref id) (hrow : (s.rows[id]?).bind Row.sl = some (R, e, nl, xs)) (hl : bnd s.env lo 0 = some l) (hh : bnd s.env hi xs.length = some h)
    (hT : P.underlying T = some (.slice el)) (hinf : P.info? el = some inf) (hsz : inf.size = e) (h0 : 0 ≤ l) (h1 : l ≤ h) (h2 : h ≤ xs.length)
    (next : VO P C ops rest Q (s.put t (.sub id e l.toNat h.toNat xs.length))) : VO P C ops (⟨some t, .slice T x lo hi none, ty, pos, af, none⟩ :: rest) Q s := vo_pure ht (lt_slice_ref hx hrow hl hh hT hinf hsz h0 h1 h2) next

theorem SimM.sub {m : Nat → MV} {a : Act} {w : World} (hs : SimM C s m a w) {x : Operand} {id e l h c : Nat} (hx : getO s.env x = .sub id e l h c) : isSub (m id).v e l h c (a.eval x) ∧ id < s.rows.length := by
  have := hs.get x
  rw [hx] at this
  generalize a.eval x = v at this
  cases this with
  | sub _ _ _ _ _ _ hid hs => exact ⟨hs, hid⟩

/-- A row is cut shorter. -/
theorem vo_cut {l : List Oper} (u : Nat) {id e n c R : Nat} {nl : Option Bool} {fr : Bool} {xs : List PV} (hu : look s.env u = .sub id e 0 n c) (hrow : s.rows[id]? = some (.own R e nl fr xs)) (hnb : C.nb ≤ id) (hn : n ≤ xs.length)
    (next : VO P C ops l Q ⟨s.n, (u, .ref id) :: killE id s.env, (s.rows.map (Row.kill id)).set id (.own R e nl fr (xs.take n))⟩) : VO P C ops l Q s := by
  intro a w ⟨m, hs⟩
  have hlid : liveAt s.rows id := ⟨_, hrow, rfl⟩
  have hid : id < s.rows.length := (List.getElem?_eq_some_iff.1 hrow).1
  have hsb : isSub (m id).v e 0 n c (a.tmps.getD u undef) := by
    have hv := hs.env u
    rw [hu] at hv
    generalize a.tmps.getD u undef = x at hv
    cases hv with
    | sub _ _ _ _ _ _ _ hsb => exact hsb
  have hR := hs.rows id _ hrow
  have hntake : (xs.take n).length = n := by simp; omega
  have key : ∃ v', v' = a.tmps.getD u undef ∧ (∀ b, blk v' = some b → (m id).S b) ∧ ∀ (G : Bool → Nat → Prop) (m2 : Nat → MV) (N2 : Nat), (∀ fr b, Gd C s.rows m w fr b → G fr b ∧ w.heap[b]? = w.heap[b]?) → RowOK w G m2 N2 (.of v') (.own R e nl fr (xs.take n)) := by
    generalize hmv : m id = mv at *
    cases hR with
    | own v t' e nl fr xs vs hown h1 h2 hw hr =>
      have hvl : vs.length = xs.length * e := hown.1
      have hne : n * e ≤ xs.length * e := Nat.mul_le_mul_right e hn
      have hcells : ∀ (G : Bool → Nat → Prop), (∀ fr b, Gd C s.rows m w fr b → G fr b ∧ w.heap[b]? = w.heap[b]?) → ∀ (k : Nat) (y : PV) (jj : Nat) (cc : PV), (xs.take n)[k]? = some y → y.cells[jj]? = some cc → ∃ u, (vs.take (n * e))[k * e + jj]? = some u ∧ RP w (G fr) cc u := by
        intro G hG k y jj cc hy hc
        rw [List.getElem?_take] at hy
        split at hy
        · rename_i hk
          obtain ⟨u, hu, hp⟩ := hr k y jj cc hy hc
          have hjj : jj < e := by rw [← (hw k y hy).1]; exact (List.getElem?_eq_some_iff.1 hc).1
          have hlt : k * e + jj < n * e := by
            have := Nat.mul_le_mul_right e (show k + 1 ≤ n by omega)
            rw [Nat.add_mul] at this
            omega
          exact ⟨u, by rw [List.getElem?_take, if_pos hlt]; exact hu, hp.mono (hG fr)⟩
        · cases hy
      have hfit : ∀ (k : Nat) (y : PV), (xs.take n)[k]? = some y → y.fits e := fun k y hy => by
        rw [List.getElem?_take] at hy
        split at hy
        · exact hw k y hy
        · cases hy
      rcases hsb with ⟨x0, _, x1, _, x3⟩ | ⟨b, n0, cap, x0, _, x1, x2, x4⟩
      · have x0 : v = .slice none 0 0 := x0
        refine ⟨.slice none 0 0, x3.symm, fun b hb => by simp [blk] at hb, fun G m2 N2 hG => ?_⟩
        subst x1
        exact .own _ _ _ nl fr _ (vs.take (0 * e)) ⟨by simp, .inl ⟨rfl, by simp⟩⟩ (fun _ => rfl) (fun h => by have := h2 h; exact (this x0).elim) hfit (hcells G hG)
      · have x0 : v = .slice (some ⟨b, 0, none⟩) n0 cap := x0
        rcases hown.2 with ⟨e0, _⟩ | ⟨g, cap', cur, e0, q0, hheap, hle, hmx, hcs, htk⟩
        · rw [e0] at x0; cases x0
        · have hbg := x0.symm.trans e0
          injection hbg with q1 q2 q3
          injection q1 with q1
          injection q1 with q1
          subst q1; subst q2; subst q3
          have hA : (if cap = 0 then (⟨b, 0, none⟩ : Addr) else ⟨b, 0 * e, none⟩) = ⟨b, 0, none⟩ := by split <;> simp
          rw [hA, Nat.sub_zero, Nat.sub_zero] at x4
          refine ⟨.slice (some ⟨b, 0, none⟩) n cap, x4.symm, fun b9 hb => by show blk v = some b9; rw [e0]; exact hb, fun G m2 N2 hG => ?_⟩
          refine .own _ _ _ nl fr _ (vs.take (n * e)) ⟨by rw [List.length_take, hvl, hntake]; omega, .inr ⟨b, cap, cur, by rw [hntake], q0, hheap, by rw [hntake]; omega, hmx, hcs, ?_⟩⟩ (fun h => by have := h1 h; rw [e0] at this; cases this) (fun _ h => by cases h) hfit (hcells G hG)
          rw [hntake, ← htk, List.take_take]
          congr 1
          omega
  obtain ⟨v', hv', hb, hok⟩ := key
  have hmove := hs.moveRow (id := id) hlid hnb (w' := w) (bo := none) (fun b h => by cases h) (grown_refl w) (.own R e nl fr (xs.take n)) (.of v') rfl (fun b hb9 => .inl (hb b hb9)) (fun hG => hok _ _ _ hG)
  refine next a w ⟨_, { hmove with env := fun q => ?_ }⟩
  show RS _ _ _ _ (look ((u, .ref id) :: killE id s.env) q) _
  rw [look_cons]
  split
  · rename_i e0
    subst e0
    have := RS.ref (w := w) (G := Gd C ((s.rows.map (Row.kill id)).set id (.own R e nl fr (xs.take n))) (updM m id (.of v')) w) (m := updM m id (.of v')) (N := ((s.rows.map (Row.kill id)).set id (Row.own R e nl fr (xs.take n))).length) id (by simpa using hid)
    rw [updM_same] at this
    rw [← hv']
    exact this
  · exact hmove.env q

end
end Go.Vl

/- Loops in which some slots and some rows turn; states made plain. -/
namespace Go.Vl
set_option linter.unusedVariables false
set_option linter.unusedSimpArgs false
open Go.RowKit

def setAll : List Row → List Nat → List Row → List Row
  | rows, [], _ => rows
  | rows, _ :: _, [] => rows
  | rows, i :: is, r :: rs => setAll (rows.set i r) is rs

def pickR (rows : List Row) (ch : List Nat) : List Row := ch.map fun i => (rows[i]?).getD .dead

section
variable {P : Program} {C : Ctx} {Q : Go.Exit → St → Prop} {s : St}

def againE (N : Nat) (Lf Lv ch : List Nat) (k : Nat) (F : List SV) (R : List Row) (I : Nat → List SV → List Row → Prop) (n : Nat) (s' : St) : Prop :=
  again N (Lf ++ Lv) k (fun m us rows => us.take Lf.length = F ∧ ∃ rs, rs.length = ch.length ∧ rows = setAll R ch rs ∧ I m (us.drop Lf.length) rs) n s'

/-- A loop whose slots Lf stay as they are, and all rows but those of ch. -/
theorem vc_loopE {c : Code} (Lf Lv ch : List Nat) (F : List SV) (R : List Row) (I : Nat → List SV → List Row → Prop) (n0 : Nat) (hF : (Lf.map fun t => look s.env t) = F) (hR : s.rows = R) (hnb : C.nb ≤ R.length)
    (hb0 : F.all (SV.bdd R.length) = true ∧ (Lv.map fun t => look s.env t).all (SV.bdd R.length) = true ∧ R.all (Row.bdd R.length) = true) (hself : setAll R ch (pickR R ch) = R)
    (h0 : I n0 (Lv.map fun t => look s.env t) (pickR R ch))
    (hround : ∀ n vs rs, vs.length = Lv.length → rs.length = ch.length → I n vs rs → VC P C c (thn (againE s.n Lf Lv ch R.length F R I n) Q) ⟨s.n, Lf.zip F ++ Lv.zip vs, setAll R ch rs⟩) :
    VC P C (.loop c) Q s := by
  subst hR
  subst hF
  have hl : (Lf.map fun t => look s.env t).length = Lf.length := by simp
  refine vc_loop (Lf ++ Lv) (fun m us rows => us.take Lf.length = (Lf.map fun t => look s.env t) ∧ ∃ rs, rs.length = ch.length ∧ rows = setAll s.rows ch rs ∧ I m (us.drop Lf.length) rs) n0 hnb ⟨?_, hb0.2.2⟩ ⟨?_, pickR s.rows ch, by simp [pickR], hself.symm, ?_⟩ ?_
  · rw [List.map_append, List.all_append, hb0.1, hb0.2.1]; rfl
  · rw [List.map_append]; simp
  · rw [List.map_append, show Lf.length = (Lf.map fun t => look s.env t).length from hl.symm, List.drop_left]; exact h0
  · rintro n vs rows hv - ⟨h1, rs, hrs, rfl, h2⟩
    have hv' : vs.length = Lf.length + Lv.length := by simpa using hv
    have := hround n (vs.drop Lf.length) rs (by simp; omega) hrs h2
    have e : (Lf ++ Lv).zip vs = Lf.zip (Lf.map fun t => look s.env t) ++ Lv.zip (vs.drop Lf.length) := by
      rw [← h1]
      conv => lhs; rw [← List.take_append_drop Lf.length vs]
      exact List.zip_append (by simp; omega)
    rw [e]
    exact this

theorem againE_mk {N : Nat} {Lf Lv ch : List Nat} {k : Nat} {F : List SV} {R : List Row} {I : Nat → List SV → List Row → Prop} {n : Nat} {s' : St} (h0 : Nat.beq s'.n N = true) (h1 : Nat.ble k s'.rows.length = true)
    (h2 : ((Lf ++ Lv).map fun t => look s'.env t).all (SV.bdd k) = true) (h3 : (s'.rows.take k).all (Row.bdd k) = true)
    (hF : (Lf.map fun t => look s'.env t) = F) (hR : s'.rows.take k = setAll R ch (pickR s'.rows ch))
    (h : ∃ n', n' < n ∧ I n' (Lv.map fun t => look s'.env t) (pickR s'.rows ch)) : againE N Lf Lv ch k F R I n s' := by
  refine ⟨⟨Nat.eq_of_beq_eq_true h0, Nat.le_of_ble_eq_true h1, h2, h3⟩, ?_⟩
  obtain ⟨n', hn, hI⟩ := h
  refine ⟨n', hn, ?_, pickR s'.rows ch, by simp [pickR], hR, ?_⟩
  · rw [List.map_append, ← hF]; simp
  · rw [List.map_append, show Lf.length = (Lf.map fun t => look s'.env t).length by simp, List.drop_left]; exact hI
end

section
variable {late : List Nat} {P : Program} {C : Ctx} {Q : Go.Exit → St → Prop} {K : St → Prop} {s s' : St} {ops : Array Oper} {n : Nat} {listed : Array Bool}
theorem vo_stM {l : List Oper} (next : VO P C ops l Q s') (h : s = s' := by (try simp only [St.put, exposeE, killE, SV.expose, SV.kill, Row.expose, Row.kill, rowsAfter_nil, rowsAfter_one, packS, SV.shift, placeOf, enumE, List.zip_cons_cons, List.zip_nil_right, List.map_cons, List.map_nil, List.set_cons_zero, List.set_cons_succ, List.length_cons, List.length_nil, List.cons_append, List.nil_append, List.drop_succ_cons, List.drop_zero, List.drop_nil, List.take_succ_cons, List.take_zero, List.take_nil, List.getElem?_cons_zero, List.getElem?_cons_succ, List.getElem?_nil, Option.getD_some, Option.getD_none, Option.map_some, Option.map_none, Nat.reduceAdd, Nat.reduceSub, Nat.reduceEqDiff, Nat.zero_add, Bool.true_or, PV.scal, Bool.or_false, Bool.or_true, Bool.false_or, Bool.and_true, Bool.and_false, Bool.true_and, reduceIte, reduceCtorEq, SV.kill1, SV.expose1, deadAll, refsOf, List.foldl_cons, List.foldl_nil, takeSV, takeRows, takeP, takePV, setAll, resG, look_cons, Nat.succ.injEq, Nat.add_eq, Nat.mul_one, Nat.mul_zero, Nat.zero_mul, Nat.add_zero, List.map_map, PV.cells, Nat.reduceMul, List.append_nil, Option.some.injEq, Int.toNat_natCast]); exact eq_refl _) : VO P C ops l Q s := vo_st h next
theorem vc_stM {code : Code} (next : VC P C code Q s') (h : s = s' := by (try simp only [St.put, exposeE, killE, SV.expose, SV.kill, Row.expose, Row.kill, rowsAfter_nil, rowsAfter_one, packS, SV.shift, placeOf, enumE, List.zip_cons_cons, List.zip_nil_right, List.map_cons, List.map_nil, List.set_cons_zero, List.set_cons_succ, List.length_cons, List.length_nil, List.cons_append, List.nil_append, List.drop_succ_cons, List.drop_zero, List.drop_nil, List.take_succ_cons, List.take_zero, List.take_nil, List.getElem?_cons_zero, List.getElem?_cons_succ, List.getElem?_nil, Option.getD_some, Option.getD_none, Option.map_some, Option.map_none, Nat.reduceAdd, Nat.reduceSub, Nat.reduceEqDiff, Nat.zero_add, Bool.true_or, PV.scal, Bool.or_false, Bool.or_true, Bool.false_or, Bool.and_true, Bool.and_false, Bool.true_and, reduceIte, reduceCtorEq, SV.kill1, SV.expose1, deadAll, refsOf, List.foldl_cons, List.foldl_nil, takeSV, takeRows, takeP, takePV, setAll, resG, look_cons, Nat.succ.injEq, Nat.add_eq, Nat.mul_one, Nat.mul_zero, Nat.zero_mul, Nat.add_zero, List.map_map, PV.cells, Nat.reduceMul, List.append_nil, Option.some.injEq, Int.toNat_natCast]); exact eq_refl _) : VC P C code Q s := vc_st h next
theorem vd_stM (next : VD P C ops n listed K s') (h : s = s' := by (try simp only [St.put, exposeE, killE, SV.expose, SV.kill, Row.expose, Row.kill, rowsAfter_nil, rowsAfter_one, packS, SV.shift, placeOf, enumE, List.zip_cons_cons, List.zip_nil_right, List.map_cons, List.map_nil, List.set_cons_zero, List.set_cons_succ, List.length_cons, List.length_nil, List.cons_append, List.nil_append, List.drop_succ_cons, List.drop_zero, List.drop_nil, List.take_succ_cons, List.take_zero, List.take_nil, List.getElem?_cons_zero, List.getElem?_cons_succ, List.getElem?_nil, Option.getD_some, Option.getD_none, Option.map_some, Option.map_none, Nat.reduceAdd, Nat.reduceSub, Nat.reduceEqDiff, Nat.zero_add, Bool.true_or, PV.scal, Bool.or_false, Bool.or_true, Bool.false_or, Bool.and_true, Bool.and_false, Bool.true_and, reduceIte, reduceCtorEq, SV.kill1, SV.expose1, deadAll, refsOf, List.foldl_cons, List.foldl_nil, takeSV, takeRows, takeP, takePV, setAll, resG, look_cons, Nat.succ.injEq, Nat.add_eq, Nat.mul_one, Nat.mul_zero, Nat.zero_mul, Nat.add_zero, List.map_map, PV.cells, Nat.reduceMul, List.append_nil, Option.some.injEq, Int.toNat_natCast]); exact eq_refl _) : VD P C ops n listed K s := vd_st h next
theorem vl_stM (next : VL late P C ops n listed K s') (h : s = s' := by (try simp only [St.put, exposeE, killE, SV.expose, SV.kill, Row.expose, Row.kill, rowsAfter_nil, rowsAfter_one, packS, SV.shift, placeOf, enumE, List.zip_cons_cons, List.zip_nil_right, List.map_cons, List.map_nil, List.set_cons_zero, List.set_cons_succ, List.length_cons, List.length_nil, List.cons_append, List.nil_append, List.drop_succ_cons, List.drop_zero, List.drop_nil, List.take_succ_cons, List.take_zero, List.take_nil, List.getElem?_cons_zero, List.getElem?_cons_succ, List.getElem?_nil, Option.getD_some, Option.getD_none, Option.map_some, Option.map_none, Nat.reduceAdd, Nat.reduceSub, Nat.reduceEqDiff, Nat.zero_add, Bool.true_or, PV.scal, Bool.or_false, Bool.or_true, Bool.false_or, Bool.and_true, Bool.and_false, Bool.true_and, reduceIte, reduceCtorEq, SV.kill1, SV.expose1, deadAll, refsOf, List.foldl_cons, List.foldl_nil, takeSV, takeRows, takeP, takePV, setAll, resG, look_cons, Nat.succ.injEq, Nat.add_eq, Nat.mul_one, Nat.mul_zero, Nat.zero_mul, Nat.add_zero, List.map_map, PV.cells, Nat.reduceMul, List.append_nil, Option.some.injEq, Int.toNat_natCast]); exact eq_refl _) : VL late P C ops n listed K s := vl_st h next
/-- A call that makes rows, in a statement with operations that write, when nothing else can come next. -/
theorem vl_callR (i : Nat) (bs : List Nat) (hbs : bs = []) {brows : List Row} {t : Nat} {ty : TypeId} {pos : String} {af : Array Edge} {gd : Option (Nat × Bool)} {f : FuncId} {fn : Func} {xs : Array Operand} {Ts : Array TypeId} {args : List SV} {R : List SV → List Row → Prop}
    (hi : ops[i]? = some ⟨some t, .call ⟨.value (.func f), xs, Ts⟩, ty, pos, af, gd⟩) (hr : Region.ready .any ops listed = [i]) (hw : Wnt C ops s ⟨some t, .call ⟨.value (.func f), xs, Ts⟩, ty, pos, af, gd⟩ true)
    (hf : P.funcs[f]? = some fn) (hnm : (fn.name == "runtime.NumGoroutine") = false) (hbd : fn.body.isNone = false) (ht : Nat.blt t s.n = true)
    (hargs : (xs.toList.map (getO s.env)).mapM (argOfB bs s.rows) = some args) (hsat : SatAt P f args brows R)
    (hb1 : bs.map (fun id => (s.rows[id]?).map Row.toArg) = brows.map some) (hb2 : brows.all Row.live = true) (hb3 : bs.map (placeOf bs) = (List.range bs.length).map some)
    (next : ∀ res rows', R res rows' → bs.length ≤ rows'.length ∧ (res.all SV.noTup = true ∧ rows'.all (Row.bdd 0) = true ∧ (rows'.take bs.length).all Row.live = true ∧ rows'.all Row.noGh = true) ∧
      (((xs.toList.map (getO s.env)).any (SV.isKept bs) = false) ∨ (res.all SV.fresh = true ∧ rows'.all Row.fresh = true)) ∧
      VL late P C ops n (listed.setIfInBounds i true) K ⟨s.n, (t, packS (res.map (SV.shift bs s.rows.length))) :: s.env, rowsAfter bs s.rows rows'⟩) :
    VL late P C ops (n + 1) listed K s := by
  intro m a w hs
  refine ⟨fun h => (by rw [hr] at h; cases h), fun j hj => ?_⟩
  rw [hr] at hj
  simp at hj
  subst hj
  unfold wpOp
  simp only [hi]
  rw [if_pos (hw m a w hs)]
  left
  exact ow_callR bs hbs hs hf hnm hbd ht hargs hsat hb1 hb2 hb3 (fun res rows' hR => let ⟨h1, h2, h3, h4⟩ := next res rows' hR; ⟨h1, h2, h3, fun m' a' w' hx hs' => ⟨.inl hx, h4 m' a' w' hs'⟩⟩)
end
end Go.Vl

/- The way into a function, and what it hands back: values, structs, and rows of its own. -/
namespace Go.Vl
set_option linter.unusedVariables false
set_option linter.unusedSimpArgs false
open Go.RowKit

def retQ (C : Ctx) (rs : List (Nat × Option (Nat × Nat))) (R : List SV → List Row → Prop) (e : Go.Exit) (s : St) : Prop :=
  (e = .normal ∨ e = .ret) ∧ rs.all (resGOK s) = true ∧ ∃ res rows', res.length = rs.length ∧ Hands C (List.range rs.length) res rows' ⟨rs.length, enumE 0 (rs.map (resG s)), s.rows⟩ ∧ R res rows'

section
variable {P : Program}

theorem sat_entry_G {f : FuncId} {fn : Func} {c : Code} {args : List SV} {rows : List Row} {R : List SV → List Row → Prop} {rs : List (Nat × Option (Nat × Nat))} (hf : P.funcs[f]? = some fn) (hb : fn.body = some c)
    (hr : fn.results = (rs.map resVar).toArray) (hl : rs.length ≤ 5) (hn : args.length ≤ fn.ntmps) (hT : ∀ r ∈ rs, resT P r)
    (h : ∀ C : Ctx, C.nb = rows.length → VC P C c (retQ C rs R) ⟨fn.ntmps, enumE 0 args, rows⟩) : SatAt P f args rows R := by
  intro C m vals hnb hA hv hs
  refine calls_of_wp hf hb ?_
  have hs2 : SimM C ⟨fn.ntmps, enumE 0 args, rows⟩ m { tmps := vals ++ Array.replicate (fn.ntmps - vals.size) undef, defers := [] } C.w0 := by
    refine { hs with size := ?_, env := fun t => ?_, defs := rfl }
    · simp; omega
    · have := hs.env t
      show RS _ _ _ _ (look (enumE 0 args) t) _
      change RS _ _ _ _ (look (enumE 0 args) t) _ at this
      by_cases ht : t < vals.size
      · have e : (vals ++ Array.replicate (fn.ntmps - vals.size) undef).getD t undef = vals.getD t undef := by
          simp [Array.getD, ht]
          intro hh; omega
        rw [e]
        exact this
      · have e : look (enumE 0 args) t = .any := by
          rw [look_enumE]
          simp
          rw [List.getElem?_eq_none (by omega)]
          rfl
        rw [e]
        exact .any _
  refine wp_mono (h C hnb _ _ ⟨m, hs2⟩) ?_
  rintro e a w' ⟨s', ⟨m', hs'⟩, he, hok, res, rows', hlen, hh, hR⟩
  obtain ⟨us, hrun, hul, hus⟩ := run_resGA (P := P) hs' hr hl hT hok
  have hs3 : SimM C ⟨rs.length, enumE 0 (rs.map (resG s')), s'.rows⟩ m' ⟨us, []⟩ w' := { hs' with
    defs := rfl
    size := hul
    env := fun t => by
      show RS _ _ _ _ (look (enumE 0 (rs.map (resG s'))) t) _
      rw [look_enumE]
      simp only [Nat.zero_le, if_true, Nat.sub_zero]
      rcases Nat.lt_or_ge t rs.length with ht | ht
      · simp only [List.getElem?_map, List.getElem?_eq_getElem ht, Option.map_some, Option.getD_some]
        exact hus t _ (List.getElem?_eq_getElem ht)
      · simp only [List.getElem?_map, List.getElem?_eq_none ht, Option.map_none, Option.getD_none]
        exact .any _ }
  obtain ⟨m2, hm2⟩ := hh m' _ w' hs3
  have hts : ((List.range rs.length).map fun t => us.getD t undef).toArray = us := by
    apply Array.ext_getElem?
    intro i
    simp only [List.getElem?_toArray, List.getElem?_map]
    rcases Nat.lt_or_ge i rs.length with hi | hi
    · rw [List.getElem?_range hi, Array.getElem?_eq_getElem (by omega)]
      simp [Array.getD, show i < us.size by omega]
    · rw [List.getElem?_eq_none (by simpa using hi), Array.getElem?_eq_none (by omega)]
      rfl
  have key : ∃ v, (results fn a.tmps).run P w' = .ok v w' ∧ (∃ (us : Array Value) (res : List SV) (rows' : List Row) (m' : Nat → MV), Ending.returned v = .returned (pack us) ∧ us.size = res.length ∧
      SimM C ⟨us.size, enumE 0 res, rows'⟩ m' ⟨us, []⟩ w' ∧ R res rows') := by
    refine ⟨_, hrun, us, res, rows', m2, rfl, by rw [hul, hlen], ?_, hR⟩
    change SimM C ⟨_, _, _⟩ m2 ⟨((List.range rs.length).map fun t => us.getD t undef).toArray, []⟩ w' at hm2
    rw [hts] at hm2
    rw [hul]
    simpa using hm2
  obtain ⟨v, hv1, hv2⟩ := key
  rcases he with rfl | rfl
  · exact ⟨hs'.defs, v, hv1, hv2⟩
  · exact ⟨hs'.defs, v, hv1, hv2⟩

theorem retQ_sel {C : Ctx} {rs : List (Nat × Option (Nat × Nat))} {R : List SV → List Row → Prop} {s : St} {e : Go.Exit} {k : Nat} (sel : List Nat) {srows : List Row} (he : e = .normal ∨ e = .ret) (hnb : C.nb = k) (hok : rs.all (resGOK s) = true) (hkl : Nat.ble k s.rows.length = true)
    (h3 : sel.map (placeOf sel) = (List.range sel.length).map some) (hsr : sel.map (fun id => s.rows[id]?) = srows.map some) (hge : sel.all (fun id => Nat.ble k id) = true) (hb1 : (s.rows.take k).all (Row.bdd k) = true) (hb2 : srows.all (Row.bdd 0) = true)
    (hR : R ((List.range rs.length).map fun t => renS k sel (look (enumE 0 (rs.map (resG s))) t)) (s.rows.take k ++ srows)) : retQ C rs R e s :=
  ⟨he, hok, _, _, by simp, hands_sel (s := ⟨rs.length, enumE 0 (rs.map (resG s)), s.rows⟩) (ts := List.range rs.length) sel hnb hkl h3 hsr hge hb1 hb2, hR⟩
end
end Go.Vl

/- A field of an element of a row is written. -/
namespace Go.Vl
set_option linter.unusedVariables false
set_option linter.unusedSimpArgs false
open Go.RowKit
section
variable {P : Program} {C : Ctx} {Q : Go.Exit → St → Prop} {s : St} {ops : Array Oper} {rest : List Oper} {t : Nat} {ty : TypeId} {pos : String} {af : Array Edge}

end
end Go.Vl

/- The facts on the types of this translation that the rules ask for. -/
namespace Go.Vl
set_option linter.unusedVariables false
set_option linter.unusedSimpArgs false
open Go.Proofs
noncomputable def ti3 : TypeInfo := (Try.prog.info? 3).getD default
theorem inf3 : Try.prog.info? 3 = some ti3 := by kernel_rfl
theorem sz3 : ti3.size = 1 := by kernel_rfl
theorem by3 : ti3.bytes = 8 := by kernel_rfl
noncomputable def ti4 : TypeInfo := (Try.prog.info? 4).getD default
theorem inf4 : Try.prog.info? 4 = some ti4 := by kernel_rfl
theorem sz4 : ti4.size = 1 := by kernel_rfl
theorem by4 : ti4.bytes = 1 := by kernel_rfl
noncomputable def ti5 : TypeInfo := (Try.prog.info? 5).getD default
theorem inf5 : Try.prog.info? 5 = some ti5 := by kernel_rfl
theorem sz5 : ti5.size = 1 := by kernel_rfl
theorem by5 : ti5.bytes = 1 := by kernel_rfl
noncomputable def ti22 : TypeInfo := (Try.prog.info? 22).getD default
theorem inf22 : Try.prog.info? 22 = some ti22 := by kernel_rfl
theorem sz22 : ti22.size = 1 := by kernel_rfl
noncomputable def ti23 : TypeInfo := (Try.prog.info? 23).getD default
theorem inf23 : Try.prog.info? 23 = some ti23 := by kernel_rfl
theorem sz23 : ti23.size = 1 := by kernel_rfl
noncomputable def ti25 : TypeInfo := (Try.prog.info? 25).getD default
theorem inf25 : Try.prog.info? 25 = some ti25 := by kernel_rfl
theorem sz25 : ti25.size = 3 := by kernel_rfl
noncomputable def ti28 : TypeInfo := (Try.prog.info? 28).getD default
theorem inf28 : Try.prog.info? 28 = some ti28 := by kernel_rfl
theorem sz28 : ti28.size = 1 := by kernel_rfl
theorem by28 : ti28.bytes = 24 := by kernel_rfl
noncomputable def ti32 : TypeInfo := (Try.prog.info? 32).getD default
noncomputable def ti59 : TypeInfo := (Try.prog.info? 59).getD default
noncomputable def ti60 : TypeInfo := (Try.prog.info? 60).getD default
noncomputable def ti62 : TypeInfo := (Try.prog.info? 62).getD default
noncomputable def ti66 : TypeInfo := (Try.prog.info? 66).getD default
noncomputable def ti67 : TypeInfo := (Try.prog.info? 67).getD default
noncomputable def ti69 : TypeInfo := (Try.prog.info? 69).getD default
noncomputable def ti92 : TypeInfo := (Try.prog.info? 92).getD default
noncomputable def ti94 : TypeInfo := (Try.prog.info? 94).getD default
noncomputable def ti99 : TypeInfo := (Try.prog.info? 99).getD default
noncomputable def ti101 : TypeInfo := (Try.prog.info? 101).getD default
noncomputable def ti118 : TypeInfo := (Try.prog.info? 118).getD default
noncomputable def ti130 : TypeInfo := (Try.prog.info? 130).getD default
noncomputable def ti132 : TypeInfo := (Try.prog.info? 132).getD default
noncomputable def ti134 : TypeInfo := (Try.prog.info? 134).getD default
noncomputable def ti136 : TypeInfo := (Try.prog.info? 136).getD default
noncomputable def ti138 : TypeInfo := (Try.prog.info? 138).getD default
noncomputable def ti144 : TypeInfo := (Try.prog.info? 144).getD default
noncomputable def ti146 : TypeInfo := (Try.prog.info? 146).getD default
noncomputable def ti148 : TypeInfo := (Try.prog.info? 148).getD default
noncomputable def ti149 : TypeInfo := (Try.prog.info? 149).getD default
noncomputable def ti151 : TypeInfo := (Try.prog.info? 151).getD default
noncomputable def ti152 : TypeInfo := (Try.prog.info? 152).getD default
noncomputable def ti173 : TypeInfo := (Try.prog.info? 173).getD default
noncomputable def ti175 : TypeInfo := (Try.prog.info? 175).getD default
noncomputable def ti190 : TypeInfo := (Try.prog.info? 190).getD default
noncomputable def ti217 : TypeInfo := (Try.prog.info? 217).getD default
theorem E22 : ElInfo Try.prog 22 5 1 1 (.int .u8 0) :=
  ⟨Try.underlying22, ⟨ti5, (.int .u8 0), inf5, sz5, by5, by kernel_rfl, by kernel_rfl, fun _ _ => .int _ _⟩, fits_of rfl, by decide⟩
theorem E23 : ElInfo Try.prog 23 28 1 24 (.sl (some true) 1 []) :=
  ⟨Try.underlying23, ⟨ti28, (.slice none 0 0), inf28, sz28, by28, by kernel_rfl, by kernel_rfl, fun _ _ => .nilsl _ _ (by decide)⟩, fits_of rfl, by decide⟩
theorem E28 : ElInfo Try.prog 28 3 1 8 (.int .i64 0) :=
  ⟨Try.underlying28, ⟨ti3, (.int .i64 0), inf3, sz3, by3, by kernel_rfl, by kernel_rfl, fun _ _ => .int _ _⟩, fits_of rfl, by decide⟩
theorem E85 : ElInfo Try.prog 85 4 1 1 (.bool false) :=
  ⟨Try.underlying85, ⟨ti4, (.bool false), inf4, sz4, by4, by kernel_rfl, by kernel_rfl, fun _ _ => .bool _⟩, fits_of rfl, by decide⟩
theorem Z25 : StZ Try.prog 25 [(.sl none 1 []), (.sl none 1 []), (.sl none 1 [])] := by
  refine ⟨⟨_, Try.underlying25⟩, ti25, #[(.slice none 0 0), (.slice none 0 0), (.slice none 0 0)], inf25, sz25, by kernel_rfl, fun w G => .agg _ _ rfl ?_ ?_⟩
  · intro j c h
    match j, h with
    | 0, h => cases h; rfl
    | 1, h => cases h; rfl
    | 2, h => cases h; rfl
  · intro j c u h hu
    match j, h, hu with
    | 0, h, hu => cases h; cases hu; exact .nilsl _ _ (by decide)
    | 1, h, hu => cases h; cases hu; exact .nilsl _ _ (by decide)
    | 2, h, hu => cases h; cases hu; exact .nilsl _ _ (by decide)
theorem S118 : StInfo Try.prog 118 [(0, 1), (1, 1)] [(.sl none 1 []), (.int .i64 0)] := by
  refine ⟨⟨_, Try.underlying118⟩, #[(.slice none 0 0), (.int .i64 0)], fun l => by kernel_rfl, fun w G => .agg _ _ rfl ?_ ?_⟩
  · intro j c h
    match j, h with
    | 0, h => cases h; rfl
    | 1, h => cases h; rfl
  · intro j c u h hu
    match j, h, hu with
    | 0, h, hu => cases h; cases hu; exact .nilsl _ _ (by decide)
    | 1, h, hu => cases h; cases hu; exact .int _ _
end Go.Vl

namespace Go.Vl
set_option linter.unusedVariables false
set_option linter.unusedSimpArgs false
open Go.Proofs
theorem rows_eq {α : Type} {el : TypeId} {e : Nat} {nl : Option Bool} {f : Bool} {g : α → PV} {a b : List α} (h : a = b) : [Row.own el e nl f (List.map g a)] = [Row.own el e nl f (List.map g b)] := by rw [h]
def findM (n : Int) : List Int → Int → Int
  | [], _ => -1
  | x :: xs, i => if x = n then i else findM n xs (i+1)

theorem findM_drop (n : Int) (l : List Int) (k : Nat) (h : k < l.length) : findM n (l.drop k) k = if l.getD k 0 = n then (k : Int) else findM n (l.drop (k+1)) (k+1) := by
  rw [List.drop_eq_getElem_cons h]
  simp [findM, List.getD, List.getElem?_eq_getElem h]

theorem findM_mem (n : Int) : ∀ (l : List Int) (k : Int), 0 ≤ k → (0 ≤ findM n l k ↔ n ∈ l)
  | [], k, _ => by simp [findM]
  | x :: xs, k, h => by
    by_cases hx : x = n
    · simp [findM, hx, h]
    · have := findM_mem n xs (k+1) (by omega)
      simp [findM, hx, Ne.symm hx, this]

theorem findM_not (n : Int) (l : List Int) (k : Int) (h : 0 ≤ k) : findM n l k < 0 ↔ n ∉ l := by
  rw [← findM_mem n l k h]; omega

theorem nodup_take_succ {α : Type} {l : List α} {k : Nat} (h : k < l.length) (d : α) : (l.take (k+1)).Nodup ↔ (l.take k).Nodup ∧ l.getD k d ∉ l.take k := by
  rw [List.take_succ_eq_append_getElem h, List.nodup_append]
  simp [List.getD, List.getElem?_eq_getElem h]
  intro _
  exact ⟨fun h1 h2 => h1 _ h2 rfl, fun h1 a ha e => h1 (e ▸ ha)⟩

theorem nodup_take {α : Type} {l : List α} (k : Nat) (h : l.Nodup) : (l.take k).Nodup := (List.take_sublist k l).nodup h

theorem all_take_succ {α : Type} {p : α → Prop} {l : List α} {k : Nat} (h : k < l.length) (d : α) : (∀ x ∈ l.take (k+1), p x) ↔ (∀ x ∈ l.take k, p x) ∧ p (l.getD k d) := by
  rw [List.take_succ_eq_append_getElem h]
  simp only [List.mem_append, List.mem_singleton, or_imp, forall_and, forall_eq, List.getD, List.getElem?_eq_getElem h, Option.getD_some]

theorem getD_mem {α : Type} {l : List α} {k : Nat} (h : k < l.length) (d : α) : l.getD k d ∈ l := by
  simp [List.getD, List.getElem?_eq_getElem h]

theorem take_all {α : Type} {l : List α} {k : Nat} (h : l.length ≤ k) : l.take k = l := List.take_of_length_le h
theorem bT {P : Prop} [Decidable P] (h : P) : true = decide P := (decide_eq_true h).symm
theorem bF {P : Prop} [Decidable P] (h : ¬ P) : false = decide P := (decide_eq_false h).symm
theorem lens {b : List (List Int)} {N : Nat} (h : ∀ l ∈ b, l.length < N) (k : Nat) (hN : 0 < N) : (b.getD k []).length < N := by
  by_cases hk : k < b.length
  · exact h _ (getD_mem hk [])
  · simp [List.getD, List.getElem?_eq_none (by omega : b.length ≤ k), hN]
/-- What can be the bases of a class. -/
def CB (l : List Int) (c : Int) : Prop := l ≠ [] ∧ l.length ≤ 4 ∧ l.Nodup ∧ ∀ x ∈ l, 0 ≤ x ∧ x ≤ c - 1
instance {l : List Int} {c : Int} : Decidable (CB l c) := by unfold CB; infer_instance
/-- Bases that are valid. -/
def VB (b : List (List Int)) : Prop := 1 ≤ b.length ∧ b.length ≤ 12 ∧ b.getD 0 [] = [] ∧ ∀ i, i < b.length → 0 < i → CB (b.getD i []) i
instance {b : List (List Int)} : Decidable (VB b) := by unfold VB; infer_instance
def RB0 (l : List Int) (i : Nat) : Prop := (l.length = 0 ↔ i = 0) ∧ l.length ≤ 4 ∧ l.Nodup ∧ ∀ x ∈ l, 0 ≤ x ∧ x ≤ (i : Int) - 1
theorem vb_iff (b : List (List Int)) : VB b ↔ (1 ≤ b.length ∧ b.length ≤ 12) ∧ ∀ i, i < b.length → RB0 (b.getD i []) i := by
  constructor
  · rintro ⟨h1, h2, h3, h4⟩
    refine ⟨⟨h1, h2⟩, fun i hi => ?_⟩
    rcases Nat.eq_zero_or_pos i with rfl | h0
    · rw [h3]; simp [RB0]
    · obtain ⟨c1, c2, c3, c4⟩ := h4 i hi h0
      exact ⟨⟨fun e => absurd (List.length_eq_zero_iff.1 e) c1, fun e => by omega⟩, c2, c3, c4⟩
  · rintro ⟨⟨h1, h2⟩, h⟩
    refine ⟨h1, h2, List.length_eq_zero_iff.1 ((h 0 (by omega)).1.2 rfl), fun i hi h0 => ?_⟩
    obtain ⟨c1, c2, c3, c4⟩ := h i hi
    exact ⟨fun e => by rw [e] at c1; simp at c1; omega, c2, c3, c4⟩
/-- Lists that can be merged or kept. -/
def OKL (l : List Int) (m : Int) : Prop := (l.length : Int) ≤ m ∧ l.Nodup
instance {l : List Int} {c : Int} : Decidable (OKL l c) := by unfold OKL; infer_instance
/-- Slots that are valid. -/
def VS (b s : List (List Int)) : Prop := VB b ∧ s.length = b.length ∧ s.getD 0 [] = [] ∧ ∀ l ∈ s, OKL l 4 ∧ ∀ x ∈ l, 0 ≤ x ∧ x ≤ 9
instance {b s : List (List Int)} : Decidable (VS b s) := by unfold VS; infer_instance

theorem placeIn_sat {nl0 : Option Bool} {list : List Int} {n : Int} (hlist : list.length < 1000000000)  : SatAt Try.prog 111 [.pv false (.sl nl0 1 (list.map intP)), i64 n] [] (fun res rows => res = [i64 (findM n list 0)] ∧ rows = []) := by
 refine sat_entry (ts := [4]) Try.func111 rfl rfl (by decide) (Nat.le_of_ble_eq_true rfl) fun C hC => ?_
 rw [Try.ntmps111]
 replace hC : C.nb = 0 := hC
 refine vc_seq fun K1 hK1 => ?_
 refine vc_region ?_
 refine vo_assign_pv rfl rfl ?_
 refine vo_nil ?_
 refine hK1 _ ?_
 refine vc_seq fun K2 hK2 => ?_
 refine vc_seq fun K3 hK3 => ?_
 refine vc_region ?_
 refine vo_assign_pv rfl rfl ?_
 refine vo_nil ?_
 refine hK3 _ ?_
 refine vc_block ?_
 refine vc_stN ?_
 refine vc_loopF [0, 1] [5] [.pv false (.sl nl0 1 (list.map intP)), i64 n] _ (fun mz vs => ∃ (k : Nat), mz = list.length - k ∧ (k ≤ list.length) ∧ (findM n list 0 = findM n (list.drop k) k) ∧ vs = [i64 k]) (list.length) rfl rfl (le_len hC rfl) ⟨rfl, rfl, rfl⟩ ⟨0, rfl, Nat.zero_le _, rfl, rfl⟩ ?_
 rintro mz vs - ⟨k, rfl, hk, hf, rfl⟩
 refine vc_stN ?_
 refine vc_seq fun K4 hK4 => ?_
 refine vc_seq fun K5 hK5 => ?_
 refine vc_region ?_
 refine vo_move_pv rfl rfl ?_
 refine vo_move_pv rfl rfl ?_
 refine vo_len_pv rfl rfl Try.underlying28 ?_
 refine vo_binI rfl rfl rfl rfl trivial ?_
 refine vo_nil ?_
 refine hK5 _ ?_
 refine vc_cond rfl (fun hc1 => ?_) (fun hc1 => ?_)
 ·try simp only [zq0, zq1, zq2, zq3, zq4, zq5, zq6, zq7, zq8, zq9, zqa, zqb, zqc, zqd, zqe, zqf] at hc1
  refine vc_skip ?_
  refine hK4 _ ?_
  refine vc_seq fun K6 hK6 => ?_
  refine vc_block ?_
  refine vc_seq fun K7 hK7 => ?_
  refine vc_region ?_
  refine vo_move_pv rfl rfl ?_
  refine vo_move_pv rfl rfl ?_
  refine vo_index_pv (.int .i64 0) rfl rfl rfl E28.und inf3 sz3 sd sd ?_
  simp only [Int.toNat_natCast, Int.toNat_zero, getD_ints, getD_intss, getD_bools, getD_bytes, PV.cells]
  refine vo_load_adr rfl rfl Try.underlying3 rfl ?_
  refine vo_move_pv rfl rfl ?_
  refine vo_binI rfl rfl rfl rfl trivial ?_
  refine vo_nil ?_
  refine hK7 _ ?_
  refine vc_cond rfl (fun hc2 => ?_) (fun hc2 => ?_)
  ·try simp only [zq0, zq1, zq2, zq3, zq4, zq5, zq6, zq7, zq8, zq9, zqa, zqb, zqc, zqd, zqe, zqf] at hc2
   refine vc_seq fun K8 hK8 => ?_
   refine vc_region ?_
   refine vo_move_pv rfl rfl ?_
   refine vo_assign_pv rfl rfl ?_
   refine vo_nil ?_
   refine hK8 _ ?_
   refine vc_ret ?_
   change retPv _ _ _ _ _
   refine retPv_mk rfl rfl rfl ⟨?_, rfl⟩
   refine (congrArg (fun b => [i64 b]) (?_ : _ = _) : [i64 _] = [i64 _])
   rw [hf, findM_drop _ _ _ (by omega), if_pos (by omega)]
  ·try simp only [zq0, zq1, zq2, zq3, zq4, zq5, zq6, zq7, zq8, zq9, zqa, zqb, zqc, zqd, zqe, zqf] at hc2
   refine vc_skip ?_
   refine hK6 _ ?_
   refine vc_region ?_
   refine vo_move_pv rfl rfl ?_
   refine vo_binI rfl rfl rfl rfl sd ?_
   refine vo_assign_pv rfl rfl ?_
   refine vo_nil ?_
   change againF _ _ _ _ _ _ _ _ _
   refine againF_mk rfl rfl rfl rfl rfl rfl ⟨_, ?_, k + 1, rfl, ?_, ?_, rfl⟩
   ·omega
   ·omega
   ·rw [hf, findM_drop _ _ _ (by omega), if_neg (by omega)]; rfl
 ·try simp only [zq0, zq1, zq2, zq3, zq4, zq5, zq6, zq7, zq8, zq9, zqa, zqb, zqc, zqd, zqe, zqf] at hc1
  refine vc_exit ?_
  refine hK2 _ ?_
  refine vc_seq fun K9 hK9 => ?_
  refine vc_region ?_
  refine vo_assign_pv rfl rfl ?_
  refine vo_nil ?_
  refine hK9 _ ?_
  refine vc_ret ?_
  change retPv _ _ _ _ _
  refine retPv_mk rfl rfl rfl ⟨?_, rfl⟩
  refine (congrArg (fun b => [i64 b]) (?_ : _ = _) : [i64 _] = [i64 _])
  rw [hf, show k = list.length by omega, List.drop_length]; rfl


theorem different_sat {nl0 : Option Bool} {list : List Int} (hlist : list.length < 1000000000)  : SatAt Try.prog 104 [.pv false (.sl nl0 1 (list.map intP))] [] (fun res rows => res = [bo (decide (list.Nodup))] ∧ rows = []) := by
 refine sat_entry (ts := [2]) Try.func104 rfl rfl (by decide) (Nat.le_of_ble_eq_true rfl) fun C hC => ?_
 rw [Try.ntmps104]
 replace hC : C.nb = 0 := hC
 refine vc_seq fun K1 hK1 => ?_
 refine vc_region ?_
 refine vo_assign_pv rfl rfl ?_
 refine vo_nil ?_
 refine hK1 _ ?_
 refine vc_seq fun K2 hK2 => ?_
 refine vc_seq fun K3 hK3 => ?_
 refine vc_region ?_
 refine vo_assign_pv rfl rfl ?_
 refine vo_nil ?_
 refine hK3 _ ?_
 refine vc_block ?_
 refine vc_stN ?_
 refine vc_loopF [0] [3] [.pv false (.sl nl0 1 (list.map intP))] _ (fun mz vs => ∃ (k : Nat), mz = list.length - k ∧ (k ≤ list.length) ∧ ((list.take k).Nodup) ∧ vs = [i64 k]) (list.length) rfl rfl (le_len hC rfl) ⟨rfl, rfl, rfl⟩ ⟨0, rfl, Nat.zero_le _, List.nodup_nil, rfl⟩ ?_
 rintro mz vs - ⟨k, rfl, hk, hf, rfl⟩
 refine vc_stN ?_
 refine vc_seq fun K4 hK4 => ?_
 refine vc_seq fun K5 hK5 => ?_
 refine vc_region ?_
 refine vo_move_pv rfl rfl ?_
 refine vo_move_pv rfl rfl ?_
 refine vo_len_pv rfl rfl Try.underlying28 ?_
 refine vo_binI rfl rfl rfl rfl trivial ?_
 refine vo_nil ?_
 refine hK5 _ ?_
 refine vc_cond rfl (fun hc1 => ?_) (fun hc1 => ?_)
 ·try simp only [zq0, zq1, zq2, zq3, zq4, zq5, zq6, zq7, zq8, zq9, zqa, zqb, zqc, zqd, zqe, zqf] at hc1
  refine vc_skip ?_
  refine hK4 _ ?_
  refine vc_seq fun K6 hK6 => ?_
  refine vc_block ?_
  refine vc_seq fun K7 hK7 => ?_
  refine vc_draw (by kernel_rfl) ?_
  change VD _ _ _ 9 _ _ _
  refine vd_light 0 rfl rfl rfl (by kernel_rfl) (by kernel_rfl) (by kernel_rfl) (wnt_none rfl) (lt_move_pv rfl) ?_
  refine vd_light 1 rfl rfl rfl (by kernel_rfl) (by kernel_rfl) (by kernel_rfl) (wnt_none rfl) (lt_move_pv rfl) ?_
  refine vd_light 2 rfl rfl rfl (by kernel_rfl) (by kernel_rfl) (by kernel_rfl) (wnt_none rfl) (lt_slice_pv rfl rfl rfl E28.und inf3 sz3 sd sd sd) ?_
  simp only [Int.toNat_natCast, Int.toNat_zero, List.drop_zero, Nat.sub_zero, ← List.map_drop, ← List.map_take]
  refine vd_light 3 rfl rfl rfl (by kernel_rfl) (by kernel_rfl) (by kernel_rfl) (wnt_none rfl) (lt_move_pv rfl) ?_
  refine vd_light 4 rfl rfl rfl (by kernel_rfl) (by kernel_rfl) (by kernel_rfl) (wnt_none rfl) (lt_move_pv rfl) ?_
  refine vd_light 5 rfl rfl rfl (by kernel_rfl) (by kernel_rfl) (by kernel_rfl) (wnt_none rfl) (lt_index_pv (.int .i64 0) rfl rfl E28.und inf3 sz3 sd sd) ?_
  simp only [Int.toNat_natCast, Int.toNat_zero, getD_ints, getD_intss, getD_bools, getD_bytes, PV.cells]
  refine vd_light 6 rfl rfl rfl (by kernel_rfl) (by kernel_rfl) (by kernel_rfl) (wnt_none rfl) (lt_load_adr rfl Try.underlying3 rfl) ?_
  refine vd_call 7 rfl (by kernel_rfl) (wnt_none rfl) Try.func111 rfl rfl rfl rfl (placeIn_sat (by simp; omega)) ?_
  rintro _ _ ⟨rfl, rfl⟩
  refine ⟨rfl, rfl, .inl rfl, ?_⟩
  refine vd_light 8 rfl rfl rfl (by kernel_rfl) (by kernel_rfl) (by kernel_rfl) (wnt_none rfl) (lt_binI rfl rfl rfl trivial) ?_
  refine vd_nil (by kernel_rfl) ?_
  refine hK7 _ ?_
  refine vc_cond rfl (fun hc2 => ?_) (fun hc2 => ?_)
  ·try simp only [zq0, zq1, zq2, zq3, zq4, zq5, zq6, zq7, zq8, zq9, zqa, zqb, zqc, zqd, zqe, zqf] at hc2
   refine vc_seq fun K8 hK8 => ?_
   refine vc_region ?_
   refine vo_assign_pv rfl rfl ?_
   refine vo_nil ?_
   refine hK8 _ ?_
   refine vc_ret ?_
   change retPv _ _ _ _ _
   refine retPv_mk rfl rfl rfl ⟨?_, rfl⟩
   refine (congrArg (fun b => [bo b]) (?_ : _ = _) : [bo _] = [bo _])
   exact bF fun h => ((nodup_take_succ (by omega) 0).1 (nodup_take (k+1) h)).2 ((findM_mem _ _ _ (by omega)).1 hc2)
  ·try simp only [zq0, zq1, zq2, zq3, zq4, zq5, zq6, zq7, zq8, zq9, zqa, zqb, zqc, zqd, zqe, zqf] at hc2
   refine vc_skip ?_
   refine hK6 _ ?_
   refine vc_region ?_
   refine vo_move_pv rfl rfl ?_
   refine vo_binI rfl rfl rfl rfl sd ?_
   refine vo_assign_pv rfl rfl ?_
   refine vo_nil ?_
   change againF _ _ _ _ _ _ _ _ _
   refine againF_mk rfl rfl rfl rfl rfl rfl ⟨_, ?_, k + 1, rfl, ?_, ?_, rfl⟩
   ·omega
   ·omega
   ·exact (nodup_take_succ (by omega) 0).2 ⟨hf, (findM_not _ _ _ (by omega)).1 hc2⟩
 ·try simp only [zq0, zq1, zq2, zq3, zq4, zq5, zq6, zq7, zq8, zq9, zqa, zqb, zqc, zqd, zqe, zqf] at hc1
  refine vc_exit ?_
  refine hK2 _ ?_
  refine vc_seq fun K9 hK9 => ?_
  refine vc_region ?_
  refine vo_assign_pv rfl rfl ?_
  refine vo_nil ?_
  refine hK9 _ ?_
  refine vc_ret ?_
  change retPv _ _ _ _ _
  refine retPv_mk rfl rfl rfl ⟨?_, rfl⟩
  refine (congrArg (fun b => [bo b]) (?_ : _ = _) : [bo _] = [bo _])
  rw [take_all (by omega)] at hf; exact bT hf


theorem inRange_sat {n : Int} {low : Int} {high : Int}   : SatAt Try.prog 64 [i64 n, i64 low, i64 high] [] (fun res rows => res = [bo (decide (low ≤ n ∧ n ≤ high))] ∧ rows = []) := by
 refine sat_entry (ts := [6]) Try.func64 rfl rfl (by decide) (Nat.le_of_ble_eq_true rfl) fun C hC => ?_
 rw [Try.ntmps64]
 replace hC : C.nb = 0 := hC
 refine vc_seq fun K1 hK1 => ?_
 refine vc_region ?_
 refine vo_assign_pv rfl rfl ?_
 refine vo_nil ?_
 refine hK1 _ ?_
 refine vc_seq fun K2 hK2 => ?_
 refine vc_region ?_
 refine vo_move_pv rfl rfl ?_
 refine vo_move_pv rfl rfl ?_
 refine vo_binI rfl rfl rfl rfl trivial ?_
 refine vo_move_pv rfl rfl ?_
 refine vo_split 10 rfl (fun hg1 => ?_) (fun hg1 => ?_)
 ·try simp only [zq0, zq1, zq2, zq3, zq4, zq5, zq6, zq7, zq8, zq9, zqa, zqb, zqc, zqd, zqe, zqf] at hg1
  refine vo_guard_on rfl rfl rfl ?_
  refine vo_move_pv rfl rfl ?_
  refine vo_guard_on rfl rfl rfl ?_
  refine vo_move_pv rfl rfl ?_
  refine vo_guard_on rfl rfl rfl ?_
  refine vo_binI rfl rfl rfl rfl trivial ?_
  refine vo_pick_t rfl rfl ?_
  refine vo_assign_pv rfl rfl ?_
  refine vo_nil ?_
  refine hK2 _ ?_
  refine vc_ret ?_
  change retPv _ _ _ _ _
  refine retPv_mk rfl rfl rfl ⟨?_, rfl⟩
  refine (congrArg (fun b => [bo b]) (?_ : _ = _) : [bo _] = [bo _])
  simp_all <;> omega
 ·try simp only [zq0, zq1, zq2, zq3, zq4, zq5, zq6, zq7, zq8, zq9, zqa, zqb, zqc, zqd, zqe, zqf] at hg1
  refine vo_guard_off rfl rfl rfl rfl rfl ?_
  refine vo_guard_off rfl rfl rfl rfl rfl ?_
  refine vo_guard_off rfl rfl rfl rfl rfl ?_
  refine vo_pick_f rfl rfl ?_
  refine vo_assign_pv rfl rfl ?_
  refine vo_nil ?_
  refine hK2 _ ?_
  refine vc_ret ?_
  change retPv _ _ _ _ _
  refine retPv_mk rfl rfl rfl ⟨?_, rfl⟩
  refine (congrArg (fun b => [bo b]) (?_ : _ = _) : [bo _] = [bo _])
  simp_all <;> omega


theorem allIn_sat {nl0 : Option Bool} {list : List Int} {low : Int} {high : Int} (hlist : list.length < 1000000000)  : SatAt Try.prog 105 [.pv false (.sl nl0 1 (list.map intP)), i64 low, i64 high] [] (fun res rows => res = [bo (decide (∀ x ∈ list, low ≤ x ∧ x ≤ high))] ∧ rows = []) := by
 refine sat_entry (ts := [6]) Try.func105 rfl rfl (by decide) (Nat.le_of_ble_eq_true rfl) fun C hC => ?_
 rw [Try.ntmps105]
 replace hC : C.nb = 0 := hC
 refine vc_seq fun K1 hK1 => ?_
 refine vc_region ?_
 refine vo_assign_pv rfl rfl ?_
 refine vo_nil ?_
 refine hK1 _ ?_
 refine vc_seq fun K2 hK2 => ?_
 refine vc_seq fun K3 hK3 => ?_
 refine vc_region ?_
 refine vo_assign_pv rfl rfl ?_
 refine vo_nil ?_
 refine hK3 _ ?_
 refine vc_block ?_
 refine vc_stN ?_
 refine vc_loopF [0, 1, 2] [7] [.pv false (.sl nl0 1 (list.map intP)), i64 low, i64 high] _ (fun mz vs => ∃ (k : Nat), mz = list.length - k ∧ (k ≤ list.length) ∧ (∀ x ∈ list.take k, low ≤ x ∧ x ≤ high) ∧ vs = [i64 k]) (list.length) rfl rfl (le_len hC rfl) ⟨rfl, rfl, rfl⟩ ⟨0, rfl, Nat.zero_le _, (by simp), rfl⟩ ?_
 rintro mz vs - ⟨k, rfl, hk, hf, rfl⟩
 refine vc_stN ?_
 refine vc_seq fun K4 hK4 => ?_
 refine vc_seq fun K5 hK5 => ?_
 refine vc_region ?_
 refine vo_move_pv rfl rfl ?_
 refine vo_move_pv rfl rfl ?_
 refine vo_len_pv rfl rfl Try.underlying28 ?_
 refine vo_binI rfl rfl rfl rfl trivial ?_
 refine vo_nil ?_
 refine hK5 _ ?_
 refine vc_cond rfl (fun hc1 => ?_) (fun hc1 => ?_)
 ·try simp only [zq0, zq1, zq2, zq3, zq4, zq5, zq6, zq7, zq8, zq9, zqa, zqb, zqc, zqd, zqe, zqf] at hc1
  refine vc_skip ?_
  refine hK4 _ ?_
  refine vc_seq fun K6 hK6 => ?_
  refine vc_block ?_
  refine vc_seq fun K7 hK7 => ?_
  refine vc_region ?_
  refine vo_move_pv rfl rfl ?_
  refine vo_move_pv rfl rfl ?_
  refine vo_index_pv (.int .i64 0) rfl rfl rfl E28.und inf3 sz3 sd sd ?_
  simp only [Int.toNat_natCast, Int.toNat_zero, getD_ints, getD_intss, getD_bools, getD_bytes, PV.cells]
  refine vo_load_adr rfl rfl Try.underlying3 rfl ?_
  refine vo_move_pv rfl rfl ?_
  refine vo_move_pv rfl rfl ?_
  refine vo_call0 Try.func64 rfl rfl rfl rfl inRange_sat ?_
  rintro _ _ ⟨rfl, rfl⟩
  refine ⟨rfl, rfl, .inl rfl, ?_⟩
  refine vo_not rfl rfl ?_
  refine vo_nil ?_
  refine hK7 _ ?_
  refine vc_cond rfl (fun hc2 => ?_) (fun hc2 => ?_)
  ·try simp only [zq0, zq1, zq2, zq3, zq4, zq5, zq6, zq7, zq8, zq9, zqa, zqb, zqc, zqd, zqe, zqf] at hc2
   refine vc_seq fun K8 hK8 => ?_
   refine vc_region ?_
   refine vo_assign_pv rfl rfl ?_
   refine vo_nil ?_
   refine hK8 _ ?_
   refine vc_ret ?_
   change retPv _ _ _ _ _
   refine retPv_mk rfl rfl rfl ⟨?_, rfl⟩
   refine (congrArg (fun b => [bo b]) (?_ : _ = _) : [bo _] = [bo _])
   refine bF fun h => ?_
   have h1 := h _ (getD_mem (show k < list.length by omega) 0)
   simp_all
  ·try simp only [zq0, zq1, zq2, zq3, zq4, zq5, zq6, zq7, zq8, zq9, zqa, zqb, zqc, zqd, zqe, zqf] at hc2
   refine vc_skip ?_
   refine hK6 _ ?_
   refine vc_region ?_
   refine vo_move_pv rfl rfl ?_
   refine vo_binI rfl rfl rfl rfl sd ?_
   refine vo_assign_pv rfl rfl ?_
   refine vo_nil ?_
   change againF _ _ _ _ _ _ _ _ _
   refine againF_mk rfl rfl rfl rfl rfl rfl ⟨_, ?_, k + 1, rfl, ?_, ?_, rfl⟩
   ·omega
   ·omega
   ·exact (all_take_succ (by omega) 0).2 ⟨hf, by simpa using hc2⟩
 ·try simp only [zq0, zq1, zq2, zq3, zq4, zq5, zq6, zq7, zq8, zq9, zqa, zqb, zqc, zqd, zqe, zqf] at hc1
  refine vc_exit ?_
  refine hK2 _ ?_
  refine vc_seq fun K9 hK9 => ?_
  refine vc_region ?_
  refine vo_assign_pv rfl rfl ?_
  refine vo_nil ?_
  refine hK9 _ ?_
  refine vc_ret ?_
  change retPv _ _ _ _ _
  refine retPv_mk rfl rfl rfl ⟨?_, rfl⟩
  refine (congrArg (fun b => [bo b]) (?_ : _ = _) : [bo _] = [bo _])
  rw [take_all (by omega)] at hf; exact bT hf


theorem specValidBases0_sat {nl0 : Option Bool} {bases : List (List Int)} (hbases : bases.length < 1000000000) (hlbases : ∀ l ∈ bases, l.length < 1000000000)  : SatAt Try.prog 101 [.pv false (.sl nl0 1 (bases.map ints))] [] (fun res rows => res = [bo (decide (VB bases))] ∧ rows = []) := by
 refine sat_entry (ts := [2]) Try.func101 rfl rfl (by decide) (Nat.le_of_ble_eq_true rfl) fun C hC => ?_
 rw [Try.ntmps101]
 replace hC : C.nb = 0 := hC
 refine vc_seq fun K1 hK1 => ?_
 refine vc_region ?_
 refine vo_assign_pv rfl rfl ?_
 refine vo_nil ?_
 refine hK1 _ ?_
 refine vc_seq fun K2 hK2 => ?_
 refine vc_seq fun K3 hK3 => ?_
 refine vc_region ?_
 refine vo_assign_pv rfl rfl ?_
 refine vo_nil ?_
 refine hK3 _ ?_
 refine vc_block ?_
 refine vc_stN ?_
 refine vc_loopF [0] [3] [.pv false (.sl nl0 1 (bases.map ints))] _ (fun mz vs => ∃ (k : Nat), mz = bases.length - k ∧ (k ≤ bases.length) ∧ (∀ i, i < k → RB0 (bases.getD i []) i) ∧ vs = [i64 k]) (bases.length) rfl rfl (le_len hC rfl) ⟨rfl, rfl, rfl⟩ ⟨0, rfl, Nat.zero_le _, (fun i h1 => by omega), rfl⟩ ?_
 rintro mz vs - ⟨k, rfl, hk, hf, rfl⟩
 refine vc_stN ?_
 refine vc_seq fun K4 hK4 => ?_
 refine vc_seq fun K5 hK5 => ?_
 refine vc_region ?_
 refine vo_move_pv rfl rfl ?_
 refine vo_move_pv rfl rfl ?_
 refine vo_len_pv rfl rfl Try.underlying23 ?_
 refine vo_binI rfl rfl rfl rfl trivial ?_
 refine vo_nil ?_
 refine hK5 _ ?_
 refine vc_cond rfl (fun hc1 => ?_) (fun hc1 => ?_)
 ·try simp only [zq0, zq1, zq2, zq3, zq4, zq5, zq6, zq7, zq8, zq9, zqa, zqb, zqc, zqd, zqe, zqf] at hc1
  refine vc_skip ?_
  refine hK4 _ ?_
  refine vc_seq fun K6 hK6 => ?_
  refine vc_block ?_
  refine vc_seq fun K7 hK7 => ?_
  refine vc_region ?_
  refine vo_move_pv rfl rfl ?_
  refine vo_move_pv rfl rfl ?_
  refine vo_index_pv (.sl none 1 []) rfl rfl rfl E23.und inf28 sz28 sd sd ?_
  simp only [Int.toNat_natCast, Int.toNat_zero, getD_ints, getD_intss, getD_bools, getD_bytes, PV.cells]
  refine vo_load_adr rfl rfl Try.underlying28 rfl ?_
  refine vo_len_pv rfl rfl Try.underlying28 ?_
  refine vo_binI rfl rfl rfl rfl trivial ?_
  refine vo_move_pv rfl rfl ?_
  refine vo_binI rfl rfl rfl rfl trivial ?_
  refine vo_binB rfl rfl rfl rfl Try.underlying4 ?_
  refine vo_move_pv rfl rfl ?_
  refine vo_split 19 rfl (fun hg2 => ?_) (fun hg2 => ?_)
  ·try simp only [zq0, zq1, zq2, zq3, zq4, zq5, zq6, zq7, zq8, zq9, zqa, zqb, zqc, zqd, zqe, zqf] at hg2
   rw [Bool.eq_iff_iff, beq_iff_eq, beq_iff_eq] at hg2
   refine vo_guard_off rfl rfl rfl rfl rfl ?_
   refine vo_guard_off rfl rfl rfl rfl rfl ?_
   refine vo_guard_off rfl rfl rfl rfl rfl ?_
   refine vo_guard_off rfl rfl rfl rfl rfl ?_
   refine vo_guard_off rfl rfl rfl rfl rfl ?_
   refine vo_guard_off rfl rfl rfl rfl rfl ?_
   refine vo_pick_t rfl rfl ?_
   refine vo_move_pv rfl rfl ?_
   refine vo_guard_off rfl rfl rfl rfl rfl ?_
   refine vo_guard_off rfl rfl rfl rfl rfl ?_
   refine vo_guard_off rfl rfl rfl rfl rfl ?_
   refine vo_guard_off rfl rfl rfl rfl rfl ?_
   refine vo_guard_off rfl rfl rfl rfl rfl ?_
   refine vo_guard_off rfl rfl rfl rfl rfl ?_
   refine vo_pick_t rfl rfl ?_
   refine vo_move_pv rfl rfl ?_
   refine vo_guard_off rfl rfl rfl rfl rfl ?_
   refine vo_guard_off rfl rfl rfl rfl rfl ?_
   refine vo_guard_off rfl rfl rfl rfl rfl ?_
   refine vo_guard_off rfl rfl rfl rfl rfl ?_
   refine vo_guard_off rfl rfl rfl rfl rfl ?_
   refine vo_guard_off rfl rfl rfl rfl rfl ?_
   refine vo_guard_off rfl rfl rfl rfl rfl ?_
   refine vo_guard_off rfl rfl rfl rfl rfl ?_
   refine vo_pick_t rfl rfl ?_
   refine vo_nil ?_
   refine hK7 _ ?_
   refine vc_cond_t rfl ?_
   refine vc_seq fun K8 hK8 => ?_
   refine vc_region ?_
   refine vo_assign_pv rfl rfl ?_
   refine vo_nil ?_
   refine hK8 _ ?_
   refine vc_ret ?_
   change retPv _ _ _ _ _
   refine retPv_mk rfl rfl rfl ⟨?_, rfl⟩
   refine (congrArg (fun b => [bo b]) (?_ : _ = _) : [bo _] = [bo _])
   exact bF fun h => by have := (((vb_iff _).1 h).2 k (by omega)).1; omega
  ·try simp only [zq0, zq1, zq2, zq3, zq4, zq5, zq6, zq7, zq8, zq9, zqa, zqb, zqc, zqd, zqe, zqf] at hg2
   rw [Bool.eq_iff_iff, beq_iff_eq, beq_iff_eq] at hg2
   refine vo_guard_on rfl rfl rfl ?_
   refine vo_move_pv rfl rfl ?_
   refine vo_guard_on rfl rfl rfl ?_
   refine vo_move_pv rfl rfl ?_
   refine vo_guard_on rfl rfl rfl ?_
   refine vo_index_pv (.sl none 1 []) rfl rfl rfl E23.und inf28 sz28 sd sd ?_
   simp only [Int.toNat_natCast, Int.toNat_zero, getD_ints, getD_intss, getD_bools, getD_bytes, PV.cells]
   refine vo_guard_on rfl rfl rfl ?_
   refine vo_load_adr rfl rfl Try.underlying28 rfl ?_
   refine vo_guard_on rfl rfl rfl ?_
   refine vo_len_pv rfl rfl Try.underlying28 ?_
   refine vo_guard_on rfl rfl rfl ?_
   refine vo_binI rfl rfl rfl rfl trivial ?_
   refine vo_pick_f rfl rfl ?_
   refine vo_move_pv rfl rfl ?_
   refine vo_split 27 rfl (fun hg3 => ?_) (fun hg3 => ?_)
   ·try simp only [zq0, zq1, zq2, zq3, zq4, zq5, zq6, zq7, zq8, zq9, zqa, zqb, zqc, zqd, zqe, zqf] at hg3
    refine vo_guard_off rfl rfl rfl rfl rfl ?_
    refine vo_guard_off rfl rfl rfl rfl rfl ?_
    refine vo_guard_off rfl rfl rfl rfl rfl ?_
    refine vo_guard_off rfl rfl rfl rfl rfl ?_
    refine vo_guard_off rfl rfl rfl rfl rfl ?_
    refine vo_guard_off rfl rfl rfl rfl rfl ?_
    refine vo_pick_t rfl rfl ?_
    refine vo_move_pv rfl rfl ?_
    refine vo_guard_off rfl rfl rfl rfl rfl ?_
    refine vo_guard_off rfl rfl rfl rfl rfl ?_
    refine vo_guard_off rfl rfl rfl rfl rfl ?_
    refine vo_guard_off rfl rfl rfl rfl rfl ?_
    refine vo_guard_off rfl rfl rfl rfl rfl ?_
    refine vo_guard_off rfl rfl rfl rfl rfl ?_
    refine vo_guard_off rfl rfl rfl rfl rfl ?_
    refine vo_guard_off rfl rfl rfl rfl rfl ?_
    refine vo_pick_t rfl rfl ?_
    refine vo_nil ?_
    refine hK7 _ ?_
    refine vc_cond_t rfl ?_
    refine vc_seq fun K9 hK9 => ?_
    refine vc_region ?_
    refine vo_assign_pv rfl rfl ?_
    refine vo_nil ?_
    refine hK9 _ ?_
    refine vc_ret ?_
    change retPv _ _ _ _ _
    refine retPv_mk rfl rfl rfl ⟨?_, rfl⟩
    refine (congrArg (fun b => [bo b]) (?_ : _ = _) : [bo _] = [bo _])
    exact bF fun h => by have := (((vb_iff _).1 h).2 k (by omega)).2.1; omega
   ·try simp only [zq0, zq1, zq2, zq3, zq4, zq5, zq6, zq7, zq8, zq9, zqa, zqb, zqc, zqd, zqe, zqf] at hg3
    refine vo_guard_on rfl rfl rfl ?_
    refine vo_move_pv rfl rfl ?_
    refine vo_guard_on rfl rfl rfl ?_
    refine vo_move_pv rfl rfl ?_
    refine vo_guard_on rfl rfl rfl ?_
    refine vo_index_pv (.sl none 1 []) rfl rfl rfl E23.und inf28 sz28 sd sd ?_
    simp only [Int.toNat_natCast, Int.toNat_zero, getD_ints, getD_intss, getD_bools, getD_bytes, PV.cells]
    refine vo_guard_on rfl rfl rfl ?_
    refine vo_load_adr rfl rfl Try.underlying28 rfl ?_
    refine vo_guard_on rfl rfl rfl ?_
    refine vo_call0 Try.func104 rfl rfl rfl rfl (different_sat (lens hlbases _ (by omega))) ?_
    rintro _ _ ⟨rfl, rfl⟩
    refine ⟨rfl, rfl, .inl rfl, ?_⟩
    refine vo_guard_on rfl rfl rfl ?_
    refine vo_not rfl rfl ?_
    refine vo_pick_f rfl rfl ?_
    refine vo_move_pv rfl rfl ?_
    refine vo_split 35 rfl (fun hg4 => ?_) (fun hg4 => ?_)
    ·try simp only [zq0, zq1, zq2, zq3, zq4, zq5, zq6, zq7, zq8, zq9, zqa, zqb, zqc, zqd, zqe, zqf] at hg4
     refine vo_guard_off rfl rfl rfl rfl rfl ?_
     refine vo_guard_off rfl rfl rfl rfl rfl ?_
     refine vo_guard_off rfl rfl rfl rfl rfl ?_
     refine vo_guard_off rfl rfl rfl rfl rfl ?_
     refine vo_guard_off rfl rfl rfl rfl rfl ?_
     refine vo_guard_off rfl rfl rfl rfl rfl ?_
     refine vo_guard_off rfl rfl rfl rfl rfl ?_
     refine vo_guard_off rfl rfl rfl rfl rfl ?_
     refine vo_pick_t rfl rfl ?_
     refine vo_nil ?_
     refine hK7 _ ?_
     refine vc_cond_t rfl ?_
     refine vc_seq fun K10 hK10 => ?_
     refine vc_region ?_
     refine vo_assign_pv rfl rfl ?_
     refine vo_nil ?_
     refine hK10 _ ?_
     refine vc_ret ?_
     change retPv _ _ _ _ _
     refine retPv_mk rfl rfl rfl ⟨?_, rfl⟩
     refine (congrArg (fun b => [bo b]) (?_ : _ = _) : [bo _] = [bo _])
     exact bF fun h => hg4 (((vb_iff _).1 h).2 k (by omega)).2.2.1
    ·try simp only [zq0, zq1, zq2, zq3, zq4, zq5, zq6, zq7, zq8, zq9, zqa, zqb, zqc, zqd, zqe, zqf] at hg4
     refine vo_guard_on rfl rfl rfl ?_
     refine vo_move_pv rfl rfl ?_
     refine vo_guard_on rfl rfl rfl ?_
     refine vo_move_pv rfl rfl ?_
     refine vo_guard_on rfl rfl rfl ?_
     refine vo_index_pv (.sl none 1 []) rfl rfl rfl E23.und inf28 sz28 sd sd ?_
     simp only [Int.toNat_natCast, Int.toNat_zero, getD_ints, getD_intss, getD_bools, getD_bytes, PV.cells]
     refine vo_guard_on rfl rfl rfl ?_
     refine vo_load_adr rfl rfl Try.underlying28 rfl ?_
     refine vo_guard_on rfl rfl rfl ?_
     refine vo_move_pv rfl rfl ?_
     refine vo_guard_on rfl rfl rfl ?_
     refine vo_binI rfl rfl rfl rfl sd ?_
     refine vo_guard_on rfl rfl rfl ?_
     refine vo_call0 Try.func105 rfl rfl rfl rfl (allIn_sat (lens hlbases _ (by omega))) ?_
     rintro _ _ ⟨rfl, rfl⟩
     refine ⟨rfl, rfl, .inl rfl, ?_⟩
     refine vo_guard_on rfl rfl rfl ?_
     refine vo_not rfl rfl ?_
     refine vo_pick_f rfl rfl ?_
     refine vo_nil ?_
     refine hK7 _ ?_
     refine vc_cond rfl (fun hc5 => ?_) (fun hc5 => ?_)
     ·try simp only [zq0, zq1, zq2, zq3, zq4, zq5, zq6, zq7, zq8, zq9, zqa, zqb, zqc, zqd, zqe, zqf] at hc5
      refine vc_seq fun K11 hK11 => ?_
      refine vc_region ?_
      refine vo_assign_pv rfl rfl ?_
      refine vo_nil ?_
      refine hK11 _ ?_
      refine vc_ret ?_
      change retPv _ _ _ _ _
      refine retPv_mk rfl rfl rfl ⟨?_, rfl⟩
      refine (congrArg (fun b => [bo b]) (?_ : _ = _) : [bo _] = [bo _])
      exact bF fun h => hc5 (((vb_iff _).1 h).2 k (by omega)).2.2.2
     ·try simp only [zq0, zq1, zq2, zq3, zq4, zq5, zq6, zq7, zq8, zq9, zqa, zqb, zqc, zqd, zqe, zqf] at hc5
      refine vc_skip ?_
      refine hK6 _ ?_
      refine vc_region ?_
      refine vo_move_pv rfl rfl ?_
      refine vo_binI rfl rfl rfl rfl sd ?_
      refine vo_assign_pv rfl rfl ?_
      refine vo_nil ?_
      change againF _ _ _ _ _ _ _ _ _
      refine againF_mk rfl rfl rfl rfl rfl rfl ⟨_, ?_, k + 1, rfl, ?_, ?_, rfl⟩
      ·omega
      ·omega
      ·intro i hi; rcases Nat.lt_or_ge i k with h1 | h1; exact hf i h1; rw [show i = k by omega]; exact ⟨by omega, by omega, hg4, hc5⟩
 ·try simp only [zq0, zq1, zq2, zq3, zq4, zq5, zq6, zq7, zq8, zq9, zqa, zqb, zqc, zqd, zqe, zqf] at hc1
  refine vc_exit ?_
  refine hK2 _ ?_
  refine vc_seq fun K12 hK12 => ?_
  refine vc_region ?_
  refine vo_move_pv rfl rfl ?_
  refine vo_len_pv rfl rfl Try.underlying23 ?_
  refine vo_call0 Try.func64 rfl rfl rfl rfl inRange_sat ?_
  rintro _ _ ⟨rfl, rfl⟩
  refine ⟨rfl, rfl, .inl rfl, ?_⟩
  refine vo_assign_pv rfl rfl ?_
  refine vo_nil ?_
  refine hK12 _ ?_
  refine vc_ret ?_
  change retPv _ _ _ _ _
  refine retPv_mk rfl rfl rfl ⟨?_, rfl⟩
  refine (congrArg (fun b => [bo b]) (?_ : _ = _) : [bo _] = [bo _])
  exact decide_eq_decide.2 ⟨fun h => (vb_iff _).2 ⟨by simp at h; omega, fun i hi => hf i (by omega)⟩, fun h => by have := ((vb_iff _).1 h).1; simp; omega⟩


theorem Index_sat {nl0 : Option Bool} {s : List Int} {v : Int} (hs : s.length < 1000000000)  : SatAt Try.prog 134 [.pv false (.sl nl0 1 (s.map intP)), i64 v] [] (fun res rows => res = [i64 (findM v s 0)] ∧ rows = []) := by
 refine sat_entry (ts := [4]) Try.func134 rfl rfl (by decide) (Nat.le_of_ble_eq_true rfl) fun C hC => ?_
 rw [Try.ntmps134]
 replace hC : C.nb = 0 := hC
 refine vc_seq fun K1 hK1 => ?_
 refine vc_region ?_
 refine vo_assign_pv rfl rfl ?_
 refine vo_nil ?_
 refine hK1 _ ?_
 refine vc_seq fun K2 hK2 => ?_
 refine vc_seq fun K3 hK3 => ?_
 refine vc_region ?_
 refine vo_move_pv rfl rfl ?_
 refine vo_len_pv rfl rfl Try.underlying28 ?_
 refine vo_move_pv rfl rfl ?_
 refine vo_nil ?_
 refine hK3 _ ?_
 refine vc_block ?_
 refine vc_stN ?_
 refine vc_loopF [0, 1, 7] [8] [.pv false (.sl nl0 1 (s.map intP)), i64 v, i64 (s.map intP).length] _ (fun mz vs => ∃ (k : Nat), mz = s.length - k ∧ (k ≤ s.length) ∧ (findM v s 0 = findM v (s.drop k) k) ∧ vs = [i64 k]) (s.length) rfl rfl (le_len hC rfl) ⟨rfl, rfl, rfl⟩ ⟨0, rfl, Nat.zero_le _, rfl, rfl⟩ ?_
 rintro mz vs - ⟨k, rfl, hk, hf, rfl⟩
 refine vc_stN ?_
 refine vc_seq fun K4 hK4 => ?_
 refine vc_region ?_
 refine vo_binI rfl rfl rfl rfl trivial ?_
 refine vo_nil ?_
 refine hK4 _ ?_
 refine vc_seq fun K5 hK5 => ?_
 refine vc_cond rfl (fun hc1 => ?_) (fun hc1 => ?_)
 ·try simp only [zq0, zq1, zq2, zq3, zq4, zq5, zq6, zq7, zq8, zq9, zqa, zqb, zqc, zqd, zqe, zqf] at hc1
  refine vc_skip ?_
  refine hK5 _ ?_
  refine vc_seq fun K6 hK6 => ?_
  refine vc_block ?_
  refine vc_seq fun K7 hK7 => ?_
  refine vc_region ?_
  refine vo_move_pv rfl rfl ?_
  refine vo_assign_pv rfl rfl ?_
  refine vo_nil ?_
  refine hK7 _ ?_
  refine vc_seq fun K8 hK8 => ?_
  refine vc_region ?_
  refine vo_move_pv rfl rfl ?_
  refine vo_move_pv rfl rfl ?_
  refine vo_move_pv rfl rfl ?_
  refine vo_index_pv (.int .i64 0) rfl rfl rfl E28.und inf3 sz3 sd sd ?_
  simp only [Int.toNat_natCast, Int.toNat_zero, getD_ints, getD_intss, getD_bools, getD_bytes, PV.cells]
  refine vo_load_adr rfl rfl Try.underlying3 rfl ?_
  refine vo_binI rfl rfl rfl rfl trivial ?_
  refine vo_nil ?_
  refine hK8 _ ?_
  refine vc_cond rfl (fun hc2 => ?_) (fun hc2 => ?_)
  ·try simp only [zq0, zq1, zq2, zq3, zq4, zq5, zq6, zq7, zq8, zq9, zqa, zqb, zqc, zqd, zqe, zqf] at hc2
   refine vc_seq fun K9 hK9 => ?_
   refine vc_region ?_
   refine vo_move_pv rfl rfl ?_
   refine vo_assign_pv rfl rfl ?_
   refine vo_nil ?_
   refine hK9 _ ?_
   refine vc_ret ?_
   change retPv _ _ _ _ _
   refine retPv_mk rfl rfl rfl ⟨?_, rfl⟩
   refine (congrArg (fun b => [i64 b]) (?_ : _ = _) : [i64 _] = [i64 _])
   rw [hf, findM_drop _ _ _ (by omega), if_pos (by omega)]
  ·try simp only [zq0, zq1, zq2, zq3, zq4, zq5, zq6, zq7, zq8, zq9, zqa, zqb, zqc, zqd, zqe, zqf] at hc2
   refine vc_skip ?_
   refine hK6 _ ?_
   refine vc_region ?_
   refine vo_binI rfl rfl rfl rfl sd ?_
   refine vo_move_pv rfl rfl ?_
   refine vo_nil ?_
   change againF _ _ _ _ _ _ _ _ _
   refine againF_mk rfl rfl rfl rfl rfl rfl ⟨_, ?_, k + 1, rfl, ?_, ?_, rfl⟩
   ·omega
   ·omega
   ·rw [hf, findM_drop _ _ _ (by omega), if_neg (by omega)]; rfl
 ·try simp only [zq0, zq1, zq2, zq3, zq4, zq5, zq6, zq7, zq8, zq9, zqa, zqb, zqc, zqd, zqe, zqf] at hc1
  refine vc_exit ?_
  refine hK2 _ ?_
  refine vc_seq fun K10 hK10 => ?_
  refine vc_region ?_
  refine vo_assign_pv rfl rfl ?_
  refine vo_nil ?_
  refine hK10 _ ?_
  refine vc_ret ?_
  change retPv _ _ _ _ _
  refine retPv_mk rfl rfl rfl ⟨?_, rfl⟩
  refine (congrArg (fun b => [i64 b]) (?_ : _ = _) : [i64 _] = [i64 _])
  rw [hf, show k = s.length by omega, List.drop_length]; rfl


theorem Contains_sat {nl0 : Option Bool} {s : List Int} {v : Int} (hs : s.length < 1000000000)  : SatAt Try.prog 108 [.pv false (.sl nl0 1 (s.map intP)), i64 v] [] (fun res rows => res = [bo (decide (v ∈ s))] ∧ rows = []) := by
 refine sat_entry (ts := [4]) Try.func108 rfl rfl (by decide) (Nat.le_of_ble_eq_true rfl) fun C hC => ?_
 rw [Try.ntmps108]
 replace hC : C.nb = 0 := hC
 refine vc_seq fun K1 hK1 => ?_
 refine vc_region ?_
 refine vo_assign_pv rfl rfl ?_
 refine vo_nil ?_
 refine hK1 _ ?_
 refine vc_seq fun K2 hK2 => ?_
 refine vc_region ?_
 refine vo_move_pv rfl rfl ?_
 refine vo_move_pv rfl rfl ?_
 refine vo_call0 Try.func134 rfl rfl rfl rfl (Index_sat hs) ?_
 rintro _ _ ⟨rfl, rfl⟩
 refine ⟨rfl, rfl, .inl rfl, ?_⟩
 refine vo_binI rfl rfl rfl rfl trivial ?_
 refine vo_assign_pv rfl rfl ?_
 refine vo_nil ?_
 refine hK2 _ ?_
 refine vc_ret ?_
 change retPv _ _ _ _ _
 refine retPv_mk rfl rfl rfl ⟨?_, rfl⟩
 refine (congrArg (fun b => [bo b]) (?_ : _ = _) : [bo _] = [bo _])
 exact decide_eq_decide.2 (findM_mem _ _ _ (by omega))


theorem isList_sat {nl0 : Option Bool} {list : List Int} {most : Int} (hlist : list.length < 1000000000)  : SatAt Try.prog 100 [.pv false (.sl nl0 1 (list.map intP)), i64 most] [] (fun res rows => res = [bo (decide (OKL list most))] ∧ rows = []) := by
 refine sat_entry (ts := [4]) Try.func100 rfl rfl (by decide) (Nat.le_of_ble_eq_true rfl) fun C hC => ?_
 rw [Try.ntmps100]
 replace hC : C.nb = 0 := hC
 refine vc_seq fun K1 hK1 => ?_
 refine vc_region ?_
 refine vo_assign_pv rfl rfl ?_
 refine vo_nil ?_
 refine hK1 _ ?_
 refine vc_seq fun K2 hK2 => ?_
 refine vc_seq fun K3 hK3 => ?_
 refine vc_region ?_
 refine vo_move_pv rfl rfl ?_
 refine vo_len_pv rfl rfl Try.underlying28 ?_
 refine vo_move_pv rfl rfl ?_
 refine vo_binI rfl rfl rfl rfl trivial ?_
 refine vo_nil ?_
 refine hK3 _ ?_
 refine vc_cond rfl (fun hc1 => ?_) (fun hc1 => ?_)
 ·try simp only [zq0, zq1, zq2, zq3, zq4, zq5, zq6, zq7, zq8, zq9, zqa, zqb, zqc, zqd, zqe, zqf] at hc1
  refine vc_seq fun K4 hK4 => ?_
  refine vc_region ?_
  refine vo_assign_pv rfl rfl ?_
  refine vo_nil ?_
  refine hK4 _ ?_
  refine vc_ret ?_
  change retPv _ _ _ _ _
  refine retPv_mk rfl rfl rfl ⟨?_, rfl⟩
  refine (congrArg (fun b => [bo b]) (?_ : _ = _) : [bo _] = [bo _])
  exact bF fun h => by have := h.1; omega
 ·try simp only [zq0, zq1, zq2, zq3, zq4, zq5, zq6, zq7, zq8, zq9, zqa, zqb, zqc, zqd, zqe, zqf] at hc1
  refine vc_skip ?_
  refine hK2 _ ?_
  refine vc_seq fun K5 hK5 => ?_
  refine vc_seq fun K6 hK6 => ?_
  refine vc_region ?_
  refine vo_move_pv rfl rfl ?_
  refine vo_len_pv rfl rfl Try.underlying28 ?_
  refine vo_move_pv rfl rfl ?_
  refine vo_nil ?_
  refine hK6 _ ?_
  refine vc_block ?_
  refine vc_stN ?_
  refine vc_loopF [0, 11, 12] [13] [.pv false (.sl nl0 1 (list.map intP)), .pv false (.sl nl0 1 (list.map intP)), i64 (list.map intP).length] _ (fun mz vs => ∃ (k : Nat), mz = list.length - k ∧ (k ≤ list.length) ∧ ((list.take k).Nodup) ∧ vs = [i64 k]) (list.length) rfl rfl (le_len hC rfl) ⟨rfl, rfl, rfl⟩ ⟨0, rfl, Nat.zero_le _, List.nodup_nil, rfl⟩ ?_
  rintro mz vs - ⟨k, rfl, hk, hf, rfl⟩
  refine vc_stN ?_
  refine vc_seq fun K7 hK7 => ?_
  refine vc_region ?_
  refine vo_binI rfl rfl rfl rfl trivial ?_
  refine vo_nil ?_
  refine hK7 _ ?_
  refine vc_seq fun K8 hK8 => ?_
  refine vc_cond rfl (fun hc2 => ?_) (fun hc2 => ?_)
  ·try simp only [zq0, zq1, zq2, zq3, zq4, zq5, zq6, zq7, zq8, zq9, zqa, zqb, zqc, zqd, zqe, zqf] at hc2
   refine vc_skip ?_
   refine hK8 _ ?_
   refine vc_seq fun K9 hK9 => ?_
   refine vc_block ?_
   refine vc_seq fun K10 hK10 => ?_
   refine vc_region ?_
   refine vo_move_pv rfl rfl ?_
   refine vo_index_pv (.int .i64 0) rfl rfl rfl E28.und inf3 sz3 sd sd ?_
   simp only [Int.toNat_natCast, Int.toNat_zero, getD_ints, getD_intss, getD_bools, getD_bytes, PV.cells]
   refine vo_load_adr rfl rfl Try.underlying3 rfl ?_
   refine vo_assign_pv rfl rfl ?_
   refine vo_assign_pv rfl rfl ?_
   refine vo_nil ?_
   refine hK10 _ ?_
   refine vc_seq fun K11 hK11 => ?_
   refine vc_region ?_
   refine vo_move_pv rfl rfl ?_
   refine vo_move_pv rfl rfl ?_
   refine vo_slice_pv rfl rfl rfl rfl E28.und inf3 sz3 sd sd sd ?_
   simp only [Int.toNat_natCast, Int.toNat_zero, List.drop_zero, Nat.sub_zero, ← List.map_drop, ← List.map_take]
   refine vo_move_pv rfl rfl ?_
   refine vo_call0 Try.func108 rfl rfl rfl rfl (Contains_sat (by simp; omega)) ?_
   rintro _ _ ⟨rfl, rfl⟩
   refine ⟨rfl, rfl, .inl rfl, ?_⟩
   refine vo_nil ?_
   refine hK11 _ ?_
   refine vc_cond rfl (fun hc3 => ?_) (fun hc3 => ?_)
   ·try simp only [zq0, zq1, zq2, zq3, zq4, zq5, zq6, zq7, zq8, zq9, zqa, zqb, zqc, zqd, zqe, zqf] at hc3
    refine vc_seq fun K12 hK12 => ?_
    refine vc_region ?_
    refine vo_assign_pv rfl rfl ?_
    refine vo_nil ?_
    refine hK12 _ ?_
    refine vc_ret ?_
    change retPv _ _ _ _ _
    refine retPv_mk rfl rfl rfl ⟨?_, rfl⟩
    refine (congrArg (fun b => [bo b]) (?_ : _ = _) : [bo _] = [bo _])
    exact bF fun h => ((nodup_take_succ (by omega) 0).1 (nodup_take (k+1) h.2)).2 hc3
   ·try simp only [zq0, zq1, zq2, zq3, zq4, zq5, zq6, zq7, zq8, zq9, zqa, zqb, zqc, zqd, zqe, zqf] at hc3
    refine vc_skip ?_
    refine hK9 _ ?_
    refine vc_region ?_
    refine vo_binI rfl rfl rfl rfl sd ?_
    refine vo_move_pv rfl rfl ?_
    refine vo_nil ?_
    change againF _ _ _ _ _ _ _ _ _
    refine againF_mk rfl rfl rfl rfl rfl rfl ⟨_, ?_, k + 1, rfl, ?_, ?_, rfl⟩
    ·omega
    ·omega
    ·exact (nodup_take_succ (by omega) 0).2 ⟨hf, hc3⟩
  ·try simp only [zq0, zq1, zq2, zq3, zq4, zq5, zq6, zq7, zq8, zq9, zqa, zqb, zqc, zqd, zqe, zqf] at hc2
   refine vc_exit ?_
   refine hK5 _ ?_
   refine vc_seq fun K13 hK13 => ?_
   refine vc_region ?_
   refine vo_assign_pv rfl rfl ?_
   refine vo_nil ?_
   refine hK13 _ ?_
   refine vc_ret ?_
   change retPv _ _ _ _ _
   refine retPv_mk rfl rfl rfl ⟨?_, rfl⟩
   refine (congrArg (fun b => [bo b]) (?_ : _ = _) : [bo _] = [bo _])
   rw [take_all (by omega)] at hf; exact bT ⟨by omega, hf⟩


theorem isUpTo_sat {n : Int} {most : Int}   : SatAt Try.prog 106 [i64 n, i64 most] [] (fun res rows => res = [bo (decide (0 ≤ n ∧ n ≤ most))] ∧ rows = []) := by
 refine sat_entry (ts := [4]) Try.func106 rfl rfl (by decide) (Nat.le_of_ble_eq_true rfl) fun C hC => ?_
 rw [Try.ntmps106]
 replace hC : C.nb = 0 := hC
 refine vc_seq fun K1 hK1 => ?_
 refine vc_region ?_
 refine vo_assign_pv rfl rfl ?_
 refine vo_nil ?_
 refine hK1 _ ?_
 refine vc_seq fun K2 hK2 => ?_
 refine vc_region ?_
 refine vo_move_pv rfl rfl ?_
 refine vo_binI rfl rfl rfl rfl trivial ?_
 refine vo_move_pv rfl rfl ?_
 refine vo_split 7 rfl (fun hg1 => ?_) (fun hg1 => ?_)
 ·try simp only [zq0, zq1, zq2, zq3, zq4, zq5, zq6, zq7, zq8, zq9, zqa, zqb, zqc, zqd, zqe, zqf] at hg1
  refine vo_guard_on rfl rfl rfl ?_
  refine vo_move_pv rfl rfl ?_
  refine vo_guard_on rfl rfl rfl ?_
  refine vo_move_pv rfl rfl ?_
  refine vo_guard_on rfl rfl rfl ?_
  refine vo_binI rfl rfl rfl rfl trivial ?_
  refine vo_pick_t rfl rfl ?_
  refine vo_assign_pv rfl rfl ?_
  refine vo_nil ?_
  refine hK2 _ ?_
  refine vc_ret ?_
  change retPv _ _ _ _ _
  refine retPv_mk rfl rfl rfl ⟨?_, rfl⟩
  refine (congrArg (fun b => [bo b]) (?_ : _ = _) : [bo _] = [bo _])
  simp_all <;> omega
 ·try simp only [zq0, zq1, zq2, zq3, zq4, zq5, zq6, zq7, zq8, zq9, zqa, zqb, zqc, zqd, zqe, zqf] at hg1
  refine vo_guard_off rfl rfl rfl rfl rfl ?_
  refine vo_guard_off rfl rfl rfl rfl rfl ?_
  refine vo_guard_off rfl rfl rfl rfl rfl ?_
  refine vo_pick_f rfl rfl ?_
  refine vo_assign_pv rfl rfl ?_
  refine vo_nil ?_
  refine hK2 _ ?_
  refine vc_ret ?_
  change retPv _ _ _ _ _
  refine retPv_mk rfl rfl rfl ⟨?_, rfl⟩
  refine (congrArg (fun b => [bo b]) (?_ : _ = _) : [bo _] = [bo _])
  simp_all <;> omega


theorem areUpTo_sat {nl0 : Option Bool} {list : List Int} {most : Int} (hlist : list.length < 1000000000)  : SatAt Try.prog 78 [.pv false (.sl nl0 1 (list.map intP)), i64 most] [] (fun res rows => res = [bo (decide (∀ x ∈ list, 0 ≤ x ∧ x ≤ most))] ∧ rows = []) := by
 refine sat_entry (ts := [4]) Try.func78 rfl rfl (by decide) (Nat.le_of_ble_eq_true rfl) fun C hC => ?_
 rw [Try.ntmps78]
 replace hC : C.nb = 0 := hC
 refine vc_seq fun K1 hK1 => ?_
 refine vc_region ?_
 refine vo_assign_pv rfl rfl ?_
 refine vo_nil ?_
 refine hK1 _ ?_
 refine vc_seq fun K2 hK2 => ?_
 refine vc_seq fun K3 hK3 => ?_
 refine vc_region ?_
 refine vo_move_pv rfl rfl ?_
 refine vo_len_pv rfl rfl Try.underlying28 ?_
 refine vo_move_pv rfl rfl ?_
 refine vo_nil ?_
 refine hK3 _ ?_
 refine vc_block ?_
 refine vc_stN ?_
 refine vc_loopF [1, 7, 8] [9] [i64 most, .pv false (.sl nl0 1 (list.map intP)), i64 (list.map intP).length] _ (fun mz vs => ∃ (k : Nat), mz = list.length - k ∧ (k ≤ list.length) ∧ (∀ x ∈ list.take k, 0 ≤ x ∧ x ≤ most) ∧ vs = [i64 k]) (list.length) rfl rfl (le_len hC rfl) ⟨rfl, rfl, rfl⟩ ⟨0, rfl, Nat.zero_le _, (by simp), rfl⟩ ?_
 rintro mz vs - ⟨k, rfl, hk, hf, rfl⟩
 refine vc_stN ?_
 refine vc_seq fun K4 hK4 => ?_
 refine vc_region ?_
 refine vo_binI rfl rfl rfl rfl trivial ?_
 refine vo_nil ?_
 refine hK4 _ ?_
 refine vc_seq fun K5 hK5 => ?_
 refine vc_cond rfl (fun hc1 => ?_) (fun hc1 => ?_)
 ·try simp only [zq0, zq1, zq2, zq3, zq4, zq5, zq6, zq7, zq8, zq9, zqa, zqb, zqc, zqd, zqe, zqf] at hc1
  refine vc_skip ?_
  refine hK5 _ ?_
  refine vc_seq fun K6 hK6 => ?_
  refine vc_block ?_
  refine vc_seq fun K7 hK7 => ?_
  refine vc_region ?_
  refine vo_index_pv (.int .i64 0) rfl rfl rfl E28.und inf3 sz3 sd sd ?_
  simp only [Int.toNat_natCast, Int.toNat_zero, getD_ints, getD_intss, getD_bools, getD_bytes, PV.cells]
  refine vo_load_adr rfl rfl Try.underlying3 rfl ?_
  refine vo_assign_pv rfl rfl ?_
  refine vo_nil ?_
  refine hK7 _ ?_
  refine vc_seq fun K8 hK8 => ?_
  refine vc_region ?_
  refine vo_move_pv rfl rfl ?_
  refine vo_move_pv rfl rfl ?_
  refine vo_call0 Try.func106 rfl rfl rfl rfl isUpTo_sat ?_
  rintro _ _ ⟨rfl, rfl⟩
  refine ⟨rfl, rfl, .inl rfl, ?_⟩
  refine vo_not rfl rfl ?_
  refine vo_nil ?_
  refine hK8 _ ?_
  refine vc_cond rfl (fun hc2 => ?_) (fun hc2 => ?_)
  ·try simp only [zq0, zq1, zq2, zq3, zq4, zq5, zq6, zq7, zq8, zq9, zqa, zqb, zqc, zqd, zqe, zqf] at hc2
   refine vc_seq fun K9 hK9 => ?_
   refine vc_region ?_
   refine vo_assign_pv rfl rfl ?_
   refine vo_nil ?_
   refine hK9 _ ?_
   refine vc_ret ?_
   change retPv _ _ _ _ _
   refine retPv_mk rfl rfl rfl ⟨?_, rfl⟩
   refine (congrArg (fun b => [bo b]) (?_ : _ = _) : [bo _] = [bo _])
   exact bF fun h => by have := h _ (getD_mem (show k < list.length by omega) 0); first | contradiction | omega
  ·try simp only [zq0, zq1, zq2, zq3, zq4, zq5, zq6, zq7, zq8, zq9, zqa, zqb, zqc, zqd, zqe, zqf] at hc2
   refine vc_skip ?_
   refine hK6 _ ?_
   refine vc_region ?_
   refine vo_binI rfl rfl rfl rfl sd ?_
   refine vo_move_pv rfl rfl ?_
   refine vo_nil ?_
   change againF _ _ _ _ _ _ _ _ _
   refine againF_mk rfl rfl rfl rfl rfl rfl ⟨_, ?_, k + 1, rfl, ?_, ?_, rfl⟩
   ·omega
   ·omega
   ·exact (all_take_succ (by omega) 0).2 ⟨hf, by first | assumption | omega⟩
 ·try simp only [zq0, zq1, zq2, zq3, zq4, zq5, zq6, zq7, zq8, zq9, zqa, zqb, zqc, zqd, zqe, zqf] at hc1
  refine vc_exit ?_
  refine hK2 _ ?_
  refine vc_seq fun K10 hK10 => ?_
  refine vc_region ?_
  refine vo_assign_pv rfl rfl ?_
  refine vo_nil ?_
  refine hK10 _ ?_
  refine vc_ret ?_
  change retPv _ _ _ _ _
  refine retPv_mk rfl rfl rfl ⟨?_, rfl⟩
  refine (congrArg (fun b => [bo b]) (?_ : _ = _) : [bo _] = [bo _])
  rw [take_all (by omega)] at hf; exact bT hf


theorem canBeBases_sat {nl0 : Option Bool} {list : List Int} {c : Int} (hlist : list.length < 1000000000) (hc : -1000000 < c ∧ c < 1000000) : SatAt Try.prog 116 [.pv false (.sl nl0 1 (list.map intP)), i64 c] [] (fun res rows => res = [bo (decide (CB list c))] ∧ rows = []) := by
 refine sat_entry (ts := [4]) Try.func116 rfl rfl (by decide) (Nat.le_of_ble_eq_true rfl) fun C hC => ?_
 rw [Try.ntmps116]
 replace hC : C.nb = 0 := hC
 refine vc_seq fun K1 hK1 => ?_
 refine vc_region ?_
 refine vo_assign_pv rfl rfl ?_
 refine vo_nil ?_
 refine hK1 _ ?_
 refine vc_seq fun K2 hK2 => ?_
 refine vc_region ?_
 refine vo_move_pv rfl rfl ?_
 refine vo_len_pv rfl rfl Try.underlying28 ?_
 refine vo_binI rfl rfl rfl rfl trivial ?_
 refine vo_move_pv rfl rfl ?_
 refine vo_split 8 rfl (fun hg1 => ?_) (fun hg1 => ?_)
 ·try simp only [zq0, zq1, zq2, zq3, zq4, zq5, zq6, zq7, zq8, zq9, zqa, zqb, zqc, zqd, zqe, zqf] at hg1
  refine vo_guard_on rfl rfl rfl ?_
  refine vo_move_pv rfl rfl ?_
  refine vo_guard_on rfl rfl rfl ?_
  refine vo_call0 Try.func100 rfl rfl rfl rfl (isList_sat hlist) ?_
  rintro _ _ ⟨rfl, rfl⟩
  refine ⟨rfl, rfl, .inl rfl, ?_⟩
  refine vo_pick_t rfl rfl ?_
  refine vo_move_pv rfl rfl ?_
  refine vo_split 12 rfl (fun hg2 => ?_) (fun hg2 => ?_)
  ·try simp only [zq0, zq1, zq2, zq3, zq4, zq5, zq6, zq7, zq8, zq9, zqa, zqb, zqc, zqd, zqe, zqf] at hg2
   refine vo_guard_on rfl rfl rfl ?_
   refine vo_move_pv rfl rfl ?_
   refine vo_guard_on rfl rfl rfl ?_
   refine vo_move_pv rfl rfl ?_
   refine vo_guard_on rfl rfl rfl ?_
   refine vo_binI rfl rfl rfl rfl sd ?_
   refine vo_guard_on rfl rfl rfl ?_
   refine vo_call0 Try.func78 rfl rfl rfl rfl (areUpTo_sat hlist) ?_
   rintro _ _ ⟨rfl, rfl⟩
   refine ⟨rfl, rfl, .inl rfl, ?_⟩
   refine vo_pick_t rfl rfl ?_
   refine vo_assign_pv rfl rfl ?_
   refine vo_nil ?_
   refine hK2 _ ?_
   refine vc_ret ?_
   change retPv _ _ _ _ _
   refine retPv_mk rfl rfl rfl ⟨?_, rfl⟩
   refine (congrArg (fun b => [bo b]) (?_ : _ = _) : [bo _] = [bo _])
   exact decide_eq_decide.2 ⟨fun h => ⟨fun e => by simp [e] at hg1, by have := hg2.1; omega, hg2.2, h⟩, fun h => h.2.2.2⟩
  ·try simp only [zq0, zq1, zq2, zq3, zq4, zq5, zq6, zq7, zq8, zq9, zqa, zqb, zqc, zqd, zqe, zqf] at hg2
   refine vo_guard_off rfl rfl rfl rfl rfl ?_
   refine vo_guard_off rfl rfl rfl rfl rfl ?_
   refine vo_guard_off rfl rfl rfl rfl rfl ?_
   refine vo_guard_off rfl rfl rfl rfl rfl ?_
   refine vo_pick_f rfl rfl ?_
   refine vo_assign_pv rfl rfl ?_
   refine vo_nil ?_
   refine hK2 _ ?_
   refine vc_ret ?_
   change retPv _ _ _ _ _
   refine retPv_mk rfl rfl rfl ⟨?_, rfl⟩
   refine (congrArg (fun b => [bo b]) (?_ : _ = _) : [bo _] = [bo _])
   exact bF fun h => hg2 ⟨by have := h.2.1; omega, h.2.2.1⟩
 ·try simp only [zq0, zq1, zq2, zq3, zq4, zq5, zq6, zq7, zq8, zq9, zqa, zqb, zqc, zqd, zqe, zqf] at hg1
  refine vo_guard_off rfl rfl rfl rfl rfl ?_
  refine vo_guard_off rfl rfl rfl rfl rfl ?_
  refine vo_pick_f rfl rfl ?_
  refine vo_move_pv rfl rfl ?_
  refine vo_guard_off rfl rfl rfl rfl rfl ?_
  refine vo_guard_off rfl rfl rfl rfl rfl ?_
  refine vo_guard_off rfl rfl rfl rfl rfl ?_
  refine vo_guard_off rfl rfl rfl rfl rfl ?_
  refine vo_pick_f rfl rfl ?_
  refine vo_assign_pv rfl rfl ?_
  refine vo_nil ?_
  refine hK2 _ ?_
  refine vc_ret ?_
  change retPv _ _ _ _ _
  refine retPv_mk rfl rfl rfl ⟨?_, rfl⟩
  refine (congrArg (fun b => [bo b]) (?_ : _ = _) : [bo _] = [bo _])
  exact bF fun h => h.1 (List.length_eq_zero_iff.1 (by omega))


theorem implValidBases_sat {nl0 : Option Bool} {bases : List (List Int)} (hbases : bases.length < 1000000000) (hlbases : ∀ l ∈ bases, l.length < 1000000000)  : SatAt Try.prog 77 [.pv false (.sl nl0 1 (bases.map ints))] [] (fun res rows => res = [bo (decide (VB bases))] ∧ rows = []) := by
 refine sat_entry (ts := [2]) Try.func77 rfl rfl (by decide) (Nat.le_of_ble_eq_true rfl) fun C hC => ?_
 rw [Try.ntmps77]
 replace hC : C.nb = 0 := hC
 refine vc_seq fun K1 hK1 => ?_
 refine vc_region ?_
 refine vo_assign_pv rfl rfl ?_
 refine vo_nil ?_
 refine hK1 _ ?_
 refine vc_seq fun K2 hK2 => ?_
 refine vc_seq fun K3 hK3 => ?_
 refine vc_region ?_
 refine vo_move_pv rfl rfl ?_
 refine vo_len_pv rfl rfl Try.underlying23 ?_
 refine vo_binI rfl rfl rfl rfl trivial ?_
 refine vo_move_pv rfl rfl ?_
 refine vo_split 7 rfl (fun hg1 => ?_) (fun hg1 => ?_)
 ·try simp only [zq0, zq1, zq2, zq3, zq4, zq5, zq6, zq7, zq8, zq9, zqa, zqb, zqc, zqd, zqe, zqf] at hg1
  refine vo_guard_off rfl rfl rfl rfl rfl ?_
  refine vo_guard_off rfl rfl rfl rfl rfl ?_
  refine vo_guard_off rfl rfl rfl rfl rfl ?_
  refine vo_pick_t rfl rfl ?_
  refine vo_move_pv rfl rfl ?_
  refine vo_guard_off rfl rfl rfl rfl rfl ?_
  refine vo_guard_off rfl rfl rfl rfl rfl ?_
  refine vo_guard_off rfl rfl rfl rfl rfl ?_
  refine vo_guard_off rfl rfl rfl rfl rfl ?_
  refine vo_guard_off rfl rfl rfl rfl rfl ?_
  refine vo_pick_t rfl rfl ?_
  refine vo_nil ?_
  refine hK3 _ ?_
  refine vc_cond_t rfl ?_
  refine vc_seq fun K4 hK4 => ?_
  refine vc_region ?_
  refine vo_assign_pv rfl rfl ?_
  refine vo_nil ?_
  refine hK4 _ ?_
  refine vc_ret ?_
  change retPv _ _ _ _ _
  refine retPv_mk rfl rfl rfl ⟨?_, rfl⟩
  refine (congrArg (fun b => [bo b]) (?_ : _ = _) : [bo _] = [bo _])
  exact bF fun h => by have := h.1; omega
 ·try simp only [zq0, zq1, zq2, zq3, zq4, zq5, zq6, zq7, zq8, zq9, zqa, zqb, zqc, zqd, zqe, zqf] at hg1
  refine vo_guard_on rfl rfl rfl ?_
  refine vo_move_pv rfl rfl ?_
  refine vo_guard_on rfl rfl rfl ?_
  refine vo_len_pv rfl rfl Try.underlying23 ?_
  refine vo_guard_on rfl rfl rfl ?_
  refine vo_binI rfl rfl rfl rfl trivial ?_
  refine vo_pick_f rfl rfl ?_
  refine vo_move_pv rfl rfl ?_
  refine vo_split 12 rfl (fun hg2 => ?_) (fun hg2 => ?_)
  ·try simp only [zq0, zq1, zq2, zq3, zq4, zq5, zq6, zq7, zq8, zq9, zqa, zqb, zqc, zqd, zqe, zqf] at hg2
   refine vo_guard_off rfl rfl rfl rfl rfl ?_
   refine vo_guard_off rfl rfl rfl rfl rfl ?_
   refine vo_guard_off rfl rfl rfl rfl rfl ?_
   refine vo_guard_off rfl rfl rfl rfl rfl ?_
   refine vo_guard_off rfl rfl rfl rfl rfl ?_
   refine vo_pick_t rfl rfl ?_
   refine vo_nil ?_
   refine hK3 _ ?_
   refine vc_cond_t rfl ?_
   refine vc_seq fun K5 hK5 => ?_
   refine vc_region ?_
   refine vo_assign_pv rfl rfl ?_
   refine vo_nil ?_
   refine hK5 _ ?_
   refine vc_ret ?_
   change retPv _ _ _ _ _
   refine retPv_mk rfl rfl rfl ⟨?_, rfl⟩
   refine (congrArg (fun b => [bo b]) (?_ : _ = _) : [bo _] = [bo _])
   exact bF fun h => by have := h.2.1; omega
  ·try simp only [zq0, zq1, zq2, zq3, zq4, zq5, zq6, zq7, zq8, zq9, zqa, zqb, zqc, zqd, zqe, zqf] at hg2
   refine vo_guard_on rfl rfl rfl ?_
   refine vo_move_pv rfl rfl ?_
   refine vo_guard_on rfl rfl rfl ?_
   refine vo_index_pv (.sl none 1 []) rfl rfl rfl E23.und inf28 sz28 sd sd ?_
   simp only [Int.toNat_natCast, Int.toNat_zero, getD_ints, getD_intss, getD_bools, getD_bytes, PV.cells]
   refine vo_guard_on rfl rfl rfl ?_
   refine vo_load_adr rfl rfl Try.underlying28 rfl ?_
   refine vo_guard_on rfl rfl rfl ?_
   refine vo_len_pv rfl rfl Try.underlying28 ?_
   refine vo_guard_on rfl rfl rfl ?_
   refine vo_binI rfl rfl rfl rfl trivial ?_
   refine vo_pick_f rfl rfl ?_
   refine vo_nil ?_
   refine hK3 _ ?_
   refine vc_cond rfl (fun hc3 => ?_) (fun hc3 => ?_)
   ·try simp only [zq0, zq1, zq2, zq3, zq4, zq5, zq6, zq7, zq8, zq9, zqa, zqb, zqc, zqd, zqe, zqf] at hc3
    refine vc_seq fun K6 hK6 => ?_
    refine vc_region ?_
    refine vo_assign_pv rfl rfl ?_
    refine vo_nil ?_
    refine hK6 _ ?_
    refine vc_ret ?_
    change retPv _ _ _ _ _
    refine retPv_mk rfl rfl rfl ⟨?_, rfl⟩
    refine (congrArg (fun b => [bo b]) (?_ : _ = _) : [bo _] = [bo _])
    exact bF fun h => by rw [h.2.2.1] at hc3; simp at hc3
   ·try simp only [zq0, zq1, zq2, zq3, zq4, zq5, zq6, zq7, zq8, zq9, zqa, zqb, zqc, zqd, zqe, zqf] at hc3
    refine vc_skip ?_
    refine hK2 _ ?_
    refine vc_seq fun K7 hK7 => ?_
    refine vc_seq fun K8 hK8 => ?_
    refine vc_region ?_
    refine vo_assign_pv rfl rfl ?_
    refine vo_nil ?_
    refine hK8 _ ?_
    refine vc_block ?_
    refine vc_stN ?_
    refine vc_loopF [0] [3] [.pv false (.sl nl0 1 (bases.map ints))] _ (fun mz vs => ∃ (k : Nat), mz = bases.length - k ∧ (k ≤ bases.length) ∧ (1 ≤ k) ∧ ((∀ i, i < k → 0 < i → CB (bases.getD i []) i)) ∧ vs = [i64 k]) (bases.length - 1) rfl rfl (le_len hC rfl) ⟨rfl, rfl, rfl⟩ ⟨1, rfl, by omega, Nat.le_refl _, (fun i h1 h2 => by omega), rfl⟩ ?_
    rintro mz vs - ⟨k, rfl, hk, h1, hf, rfl⟩
    refine vc_stN ?_
    refine vc_seq fun K9 hK9 => ?_
    refine vc_seq fun K10 hK10 => ?_
    refine vc_region ?_
    refine vo_move_pv rfl rfl ?_
    refine vo_move_pv rfl rfl ?_
    refine vo_len_pv rfl rfl Try.underlying23 ?_
    refine vo_binI rfl rfl rfl rfl trivial ?_
    refine vo_nil ?_
    refine hK10 _ ?_
    refine vc_cond rfl (fun hc4 => ?_) (fun hc4 => ?_)
    ·try simp only [zq0, zq1, zq2, zq3, zq4, zq5, zq6, zq7, zq8, zq9, zqa, zqb, zqc, zqd, zqe, zqf] at hc4
     refine vc_skip ?_
     refine hK9 _ ?_
     refine vc_seq fun K11 hK11 => ?_
     refine vc_block ?_
     refine vc_seq fun K12 hK12 => ?_
     refine vc_region ?_
     refine vo_move_pv rfl rfl ?_
     refine vo_move_pv rfl rfl ?_
     refine vo_index_pv (.sl none 1 []) rfl rfl rfl E23.und inf28 sz28 sd sd ?_
     simp only [Int.toNat_natCast, Int.toNat_zero, getD_ints, getD_intss, getD_bools, getD_bytes, PV.cells]
     refine vo_load_adr rfl rfl Try.underlying28 rfl ?_
     refine vo_move_pv rfl rfl ?_
     refine vo_call0 Try.func116 rfl rfl rfl rfl (canBeBases_sat (lens hlbases _ (by omega)) (by omega)) ?_
     rintro _ _ ⟨rfl, rfl⟩
     refine ⟨rfl, rfl, .inl rfl, ?_⟩
     refine vo_not rfl rfl ?_
     refine vo_nil ?_
     refine hK12 _ ?_
     refine vc_cond rfl (fun hc5 => ?_) (fun hc5 => ?_)
     ·try simp only [zq0, zq1, zq2, zq3, zq4, zq5, zq6, zq7, zq8, zq9, zqa, zqb, zqc, zqd, zqe, zqf] at hc5
      refine vc_seq fun K13 hK13 => ?_
      refine vc_region ?_
      refine vo_assign_pv rfl rfl ?_
      refine vo_nil ?_
      refine hK13 _ ?_
      refine vc_ret ?_
      change retPv _ _ _ _ _
      refine retPv_mk rfl rfl rfl ⟨?_, rfl⟩
      refine (congrArg (fun b => [bo b]) (?_ : _ = _) : [bo _] = [bo _])
      exact bF fun h => hc5 (h.2.2.2 k (by omega) (by omega))
     ·try simp only [zq0, zq1, zq2, zq3, zq4, zq5, zq6, zq7, zq8, zq9, zqa, zqb, zqc, zqd, zqe, zqf] at hc5
      refine vc_skip ?_
      refine hK11 _ ?_
      refine vc_region ?_
      refine vo_move_pv rfl rfl ?_
      refine vo_binI rfl rfl rfl rfl sd ?_
      refine vo_assign_pv rfl rfl ?_
      refine vo_nil ?_
      change againF _ _ _ _ _ _ _ _ _
      refine againF_mk rfl rfl rfl rfl rfl rfl ⟨_, ?_, k + 1, rfl, ?_, ?_, ?_, rfl⟩
      ·omega
      ·omega
      ·omega
      ·exact fun i h h0 => by rcases Nat.lt_or_ge i k with h1 | h1; exact hf i h1 h0; rwa [show i = k by omega]
    ·try simp only [zq0, zq1, zq2, zq3, zq4, zq5, zq6, zq7, zq8, zq9, zqa, zqb, zqc, zqd, zqe, zqf] at hc4
     refine vc_exit ?_
     refine hK7 _ ?_
     refine vc_seq fun K14 hK14 => ?_
     refine vc_region ?_
     refine vo_assign_pv rfl rfl ?_
     refine vo_nil ?_
     refine hK14 _ ?_
     refine vc_ret ?_
     change retPv _ _ _ _ _
     refine retPv_mk rfl rfl rfl ⟨?_, rfl⟩
     refine (congrArg (fun b => [bo b]) (?_ : _ = _) : [bo _] = [bo _])
     exact bT ⟨by omega, by omega, List.length_eq_zero_iff.1 (by omega), fun i h h0 => hf i (by omega) h0⟩

end Go.Vl

namespace Go.Vl
set_option linter.unusedVariables false
set_option linter.unusedSimpArgs false
open Go.Proofs

theorem VB.bd {b : List (List Int)} (h : VB b) {i : Nat} {x : Int} (hx : x ∈ b.getD i []) : 0 ≤ x ∧ x < i := by
  rcases Nat.lt_or_ge i b.length with hi | hi
  · rcases Nat.eq_zero_or_pos i with rfl | h0
    · rw [h.2.2.1] at hx; cases hx
    · have := (h.2.2.2 i hi h0).2.2.2 x hx; omega
  · simp [List.getD, List.getElem?_eq_none hi] at hx
theorem VB.bd' {b : List (List Int)} (h : VB b) : ∀ i x, x ∈ b.getD i [] → 0 ≤ x ∧ x < (i : Int) := fun _ _ => h.bd
theorem mkB_drop (l : List Int) (j : Nat) (m : List Bool) (h : j < l.length) : mkB (l.drop j) m = mkB (l.drop (j+1)) (m.set (l.getD j 0).toNat true) := by
  rw [List.drop_eq_getElem_cons h]
  have : l.getD j 0 = l[j] := by simp [List.getD, List.getElem?_eq_getElem h]
  rw [this]; rfl
theorem goB_t {b : List (List Int)} {i : Int} {m : List Bool} (h : 0 < i) (hm : m.getD i.toNat false = true) : goB b i.toNat m = goB b (i-1).toNat (mkB (b.getD i.toNat []) m) := by
  have e : i.toNat = (i-1).toNat + 1 := by omega
  rw [e] at hm ⊢
  show goB b (i-1).toNat (stB b _ m) = _
  unfold stB; rw [if_pos hm]
theorem goB_f {b : List (List Int)} {i : Int} {m : List Bool} (h : 0 < i) (hm : m.getD i.toNat false = false) : goB b i.toNat m = goB b (i-1).toNat m := by
  have e : i.toNat = (i-1).toNat + 1 := by omega
  rw [e] at hm ⊢
  show goB b (i-1).toNat (stB b _ m) = _
  unfold stB; rw [if_neg (by rw [hm]; simp)]
/-- The classes above a class; none where there is no such class. -/
def abvR (b : List (List Int)) (c : Int) : List Int := if VB b ∧ 0 ≤ c ∧ c < b.length then abvL b c.toNat else []
theorem abvR_of {b : List (List Int)} {n : Nat} (h : VB b) (hn : n < b.length) : abvR b n = abvL b n := by
  unfold abvR; rw [if_pos ⟨h, by omega, by omega⟩]; rfl
theorem abvR_no {b : List (List Int)} {c : Int} (h : ¬ (VB b ∧ 0 ≤ c ∧ c < b.length)) : abvR b c = [] := if_neg h

theorem hasClass_sat {nl0 : Option Bool} {bases : List (List Int)} {c : Int} (hbases : bases.length < 1000000000) (hlbases : ∀ l ∈ bases, l.length < 1000000000)  : SatAt Try.prog 71 [.pv false (.sl nl0 1 (bases.map ints)), i64 c] [] (fun res rows => res = [bo (decide (VB bases ∧ 0 ≤ c ∧ c < bases.length))] ∧ rows = []) := by
 refine sat_entry (ts := [4]) Try.func71 rfl rfl (by decide) (Nat.le_of_ble_eq_true rfl) fun C hC => ?_
 rw [Try.ntmps71]
 replace hC : C.nb = 0 := hC
 refine vc_seq fun K1 hK1 => ?_
 refine vc_region ?_
 refine vo_assign_pv rfl rfl ?_
 refine vo_nil ?_
 refine hK1 _ ?_
 refine vc_seq fun K2 hK2 => ?_
 refine vc_region ?_
 refine vo_move_pv rfl rfl ?_
 refine vo_call0 Try.func77 rfl rfl rfl rfl (implValidBases_sat hbases hlbases) ?_
 rintro _ _ ⟨rfl, rfl⟩
 refine ⟨rfl, rfl, .inl rfl, ?_⟩
 refine vo_move_pv rfl rfl ?_
 refine vo_split 7 rfl (fun hg1 => ?_) (fun hg1 => ?_)
 ·try simp only [zq0, zq1, zq2, zq3, zq4, zq5, zq6, zq7, zq8, zq9, zqa, zqb, zqc, zqd, zqe, zqf] at hg1
  refine vo_guard_on rfl rfl rfl ?_
  refine vo_move_pv rfl rfl ?_
  refine vo_guard_on rfl rfl rfl ?_
  refine vo_binI rfl rfl rfl rfl trivial ?_
  refine vo_pick_t rfl rfl ?_
  refine vo_move_pv rfl rfl ?_
  refine vo_split 11 rfl (fun hg2 => ?_) (fun hg2 => ?_)
  ·try simp only [zq0, zq1, zq2, zq3, zq4, zq5, zq6, zq7, zq8, zq9, zqa, zqb, zqc, zqd, zqe, zqf] at hg2
   refine vo_guard_on rfl rfl rfl ?_
   refine vo_move_pv rfl rfl ?_
   refine vo_guard_on rfl rfl rfl ?_
   refine vo_move_pv rfl rfl ?_
   refine vo_guard_on rfl rfl rfl ?_
   refine vo_len_pv rfl rfl Try.underlying23 ?_
   refine vo_guard_on rfl rfl rfl ?_
   refine vo_binI rfl rfl rfl rfl trivial ?_
   refine vo_pick_t rfl rfl ?_
   refine vo_assign_pv rfl rfl ?_
   refine vo_nil ?_
   refine hK2 _ ?_
   refine vc_ret ?_
   change retPv _ _ _ _ _
   refine retPv_mk rfl rfl rfl ⟨?_, rfl⟩
   refine (congrArg (fun b => [bo b]) (?_ : _ = _) : [bo _] = [bo _])
   exact decide_eq_decide.2 ⟨fun h => ⟨hg1, hg2, by simpa using h⟩, fun h => by simpa using h.2.2⟩
  ·try simp only [zq0, zq1, zq2, zq3, zq4, zq5, zq6, zq7, zq8, zq9, zqa, zqb, zqc, zqd, zqe, zqf] at hg2
   refine vo_guard_off rfl rfl rfl rfl rfl ?_
   refine vo_guard_off rfl rfl rfl rfl rfl ?_
   refine vo_guard_off rfl rfl rfl rfl rfl ?_
   refine vo_guard_off rfl rfl rfl rfl rfl ?_
   refine vo_pick_f rfl rfl ?_
   refine vo_assign_pv rfl rfl ?_
   refine vo_nil ?_
   refine hK2 _ ?_
   refine vc_ret ?_
   change retPv _ _ _ _ _
   refine retPv_mk rfl rfl rfl ⟨?_, rfl⟩
   refine (congrArg (fun b => [bo b]) (?_ : _ = _) : [bo _] = [bo _])
   exact bF fun h => by have := h.2.1; omega
 ·try simp only [zq0, zq1, zq2, zq3, zq4, zq5, zq6, zq7, zq8, zq9, zqa, zqb, zqc, zqd, zqe, zqf] at hg1
  refine vo_guard_off rfl rfl rfl rfl rfl ?_
  refine vo_guard_off rfl rfl rfl rfl rfl ?_
  refine vo_pick_f rfl rfl ?_
  refine vo_move_pv rfl rfl ?_
  refine vo_guard_off rfl rfl rfl rfl rfl ?_
  refine vo_guard_off rfl rfl rfl rfl rfl ?_
  refine vo_guard_off rfl rfl rfl rfl rfl ?_
  refine vo_guard_off rfl rfl rfl rfl rfl ?_
  refine vo_pick_f rfl rfl ?_
  refine vo_assign_pv rfl rfl ?_
  refine vo_nil ?_
  refine hK2 _ ?_
  refine vc_ret ?_
  change retPv _ _ _ _ _
  refine retPv_mk rfl rfl rfl ⟨?_, rfl⟩
  refine (congrArg (fun b => [bo b]) (?_ : _ = _) : [bo _] = [bo _])
  exact bF fun h => hg1 h.1


theorem indicesOf_sat {nl0 : Option Bool} {marks : List Bool} (hmarks : marks.length < 1000000000)  : SatAt Try.prog 72 [.pv false (.sl nl0 1 (marks.map boolP))] [] (fun res rows => ∃ nl, res = [.ref 0] ∧ rows = [Row.own 3 1 nl true ((idxB marks).map intP)]) := by
 refine sat_entry_g (ts := [2]) Try.func72 rfl rfl (by decide) (Nat.le_of_ble_eq_true rfl) fun C hC => ?_
 rw [Try.ntmps72]
 replace hC : C.nb = 0 := hC
 refine vc_seq fun K1 hK1 => ?_
 refine vc_region ?_
 refine vo_assign_pv rfl rfl ?_
 refine vo_nil ?_
 refine hK1 _ ?_
 refine vc_seq fun K2 hK2 => ?_
 refine vc_region ?_
 refine vo_assign_pv rfl rfl ?_
 refine vo_nil ?_
 refine hK2 _ ?_
 refine vc_seq fun K3 hK3 => ?_
 refine vc_seq fun K4 hK4 => ?_
 refine vc_region ?_
 refine vo_move_pv rfl rfl ?_
 refine vo_len_pv rfl rfl Try.underlying85 ?_
 refine vo_move_pv rfl rfl ?_
 refine vo_nil ?_
 refine hK4 _ ?_
 refine vc_block ?_
 refine vc_own_nil 3 E28 rfl ?_
 refine vc_stN ?_
 refine vc_loop [3, 6, 7, 8] (fun mz vs rows => ∃ (k : Nat), mz = marks.length - k ∧ (k ≤ marks.length) ∧ vs = [.ref 0, .pv false (.sl nl0 1 (marks.map boolP)), i64 (marks.map boolP).length, i64 k] ∧ rows = [Row.own 3 1 none true ((idxT marks k).map intP)]) (marks.length) (le_len hC rfl) ⟨rfl, rfl⟩ ⟨0, rfl, Nat.zero_le _, rfl, rfl⟩ ?_
 rintro mz vs rows - - ⟨k, rfl, hk, rfl, rfl⟩
 have hL := idxT_len marks k
 refine vc_seq fun K5 hK5 => ?_
 refine vc_region ?_
 refine vo_binI rfl rfl rfl rfl trivial ?_
 refine vo_nil ?_
 refine hK5 _ ?_
 refine vc_seq fun K6 hK6 => ?_
 refine vc_cond rfl (fun hc1 => ?_) (fun hc1 => ?_)
 ·try simp only [zq0, zq1, zq2, zq3, zq4, zq5, zq6, zq7, zq8, zq9, zqa, zqb, zqc, zqd, zqe, zqf] at hc1
  refine vc_skip ?_
  refine hK6 _ ?_
  refine vc_seq fun K7 hK7 => ?_
  refine vc_block ?_
  refine vc_seq fun K8 hK8 => ?_
  refine vc_region ?_
  refine vo_move_pv rfl rfl ?_
  refine vo_index_pv (.bool false) rfl rfl rfl E85.und inf4 sz4 sd sd ?_
  simp only [Int.toNat_natCast, Int.toNat_zero, getD_ints, getD_intss, getD_bools, getD_bytes, PV.cells]
  refine vo_load_adr rfl rfl Try.underlying4 rfl ?_
  refine vo_assign_pv rfl rfl ?_
  refine vo_assign_pv rfl rfl ?_
  refine vo_nil ?_
  refine hK8 _ ?_
  refine vc_seq fun K9 hK9 => ?_
  refine vc_region ?_
  refine vo_move_pv rfl rfl ?_
  refine vo_nil ?_
  refine hK9 _ ?_
  refine vc_cond rfl (fun hc2 => ?_) (fun hc2 => ?_)
  ·try simp only [zq0, zq1, zq2, zq3, zq4, zq5, zq6, zq7, zq8, zq9, zqa, zqb, zqc, zqd, zqe, zqf] at hc2
   refine vc_region ?_
   refine vo_move_ref rfl rfl ?_
   refine vo_move_pv rfl rfl ?_
   refine vo_buildSlice E28 rfl rfl rfl rfl rfl ?_
   refine vo_append E28 rfl (by omega) rfl rfl rfl sd sd ?_
   refine vo_stN ?_
   try simp only [app_ints, app_intss, app_bools]
   refine vo_assign_ref rfl rfl ?_
   refine vo_nil ?_
   refine hK7 _ ?_
   refine vc_region ?_
   refine vo_binI rfl rfl rfl rfl sd ?_
   refine vo_move_pv rfl rfl ?_
   refine vo_nil ?_
   change again _ _ _ _ _ _
   refine again_mk rfl rfl rfl rfl ⟨_, ?_, k + 1, rfl, ?_, rfl, (congrArg (fun l => [Row.own 3 1 none true (List.map intP l)]) (show idxT marks k ++ [((k : Nat) : Int)] = idxT marks (k+1) by rw [idxT_succ, if_pos (by assumption)]))⟩
   ·omega
   ·omega
  ·try simp only [zq0, zq1, zq2, zq3, zq4, zq5, zq6, zq7, zq8, zq9, zqa, zqb, zqc, zqd, zqe, zqf] at hc2
   refine vc_skip ?_
   refine hK7 _ ?_
   refine vc_region ?_
   refine vo_binI rfl rfl rfl rfl sd ?_
   refine vo_move_pv rfl rfl ?_
   refine vo_nil ?_
   change again _ _ _ _ _ _
   refine again_mk rfl rfl rfl rfl ⟨_, ?_, k + 1, rfl, ?_, rfl, (congrArg (fun l => [Row.own 3 1 none true (List.map intP l)]) (show idxT marks k = idxT marks (k+1) by rw [idxT_succ, if_neg (Bool.eq_false_iff.1 (by assumption))]))⟩
   ·omega
   ·omega
 ·try simp only [zq0, zq1, zq2, zq3, zq4, zq5, zq6, zq7, zq8, zq9, zqa, zqb, zqc, zqd, zqe, zqf] at hc1
  refine vc_exit ?_
  refine hK3 _ ?_
  refine vc_seq fun K10 hK10 => ?_
  refine vc_region ?_
  refine vo_move_ref rfl rfl ?_
  refine vo_assign_ref rfl rfl ?_
  refine vo_nil ?_
  refine hK10 _ ?_
  refine vc_ret ?_
  change retG _ _ _ _ _
  refine retG_one 0 hC rfl rfl rfl rfl rfl ?_
  exact ⟨_, rfl, rows_eq (g := intP) (by rw [show k = marks.length by omega]; rfl)⟩


theorem implAboveOf_sat {nl0 : Option Bool} {bases : List (List Int)} {c : Int} (hbases : bases.length < 1000000000) (hlbases : ∀ l ∈ bases, l.length < 1000000000)  : SatAt Try.prog 34 [.pv false (.sl nl0 1 (bases.map ints)), i64 c] [] (fun res rows => ∃ nl, res = [.ref 0] ∧ rows = [Row.own 3 1 nl true ((abvR bases c).map intP)]) := by
 refine sat_entry_g (ts := [4]) Try.func34 rfl rfl (by decide) (Nat.le_of_ble_eq_true rfl) fun C hC => ?_
 rw [Try.ntmps34]
 replace hC : C.nb = 0 := hC
 refine vc_seq fun K1 hK1 => ?_
 refine vc_region ?_
 refine vo_assign_pv rfl rfl ?_
 refine vo_nil ?_
 refine hK1 _ ?_
 refine vc_seq fun K2 hK2 => ?_
 refine vc_seq fun K3 hK3 => ?_
 refine vc_region ?_
 refine vo_move_pv rfl rfl ?_
 refine vo_move_pv rfl rfl ?_
 refine vo_call0 Try.func71 rfl rfl rfl rfl (hasClass_sat hbases hlbases) ?_
 rintro _ _ ⟨rfl, rfl⟩
 refine ⟨rfl, rfl, .inl rfl, ?_⟩
 refine vo_not rfl rfl ?_
 refine vo_nil ?_
 refine hK3 _ ?_
 refine vc_cond rfl (fun hc1 => ?_) (fun hc1 => ?_)
 ·try simp only [zq0, zq1, zq2, zq3, zq4, zq5, zq6, zq7, zq8, zq9, zqa, zqb, zqc, zqd, zqe, zqf] at hc1
  refine vc_seq fun K4 hK4 => ?_
  refine vc_region ?_
  refine vo_assign_pv rfl rfl ?_
  refine vo_nil ?_
  refine hK4 _ ?_
  refine vc_own_nil 4 E28 rfl ?_
  refine vc_ret ?_
  change retG _ _ _ _ _
  refine retG_one 0 hC rfl rfl rfl rfl rfl ?_
  exact ⟨_, rfl, rows_eq (g := intP) ((abvR_no hc1).symm)⟩
 ·try simp only [zq0, zq1, zq2, zq3, zq4, zq5, zq6, zq7, zq8, zq9, zqa, zqb, zqc, zqd, zqe, zqf] at hc1
  obtain ⟨hv, h0, h1⟩ := hc1
  obtain ⟨n, rfl⟩ := Int.eq_ofNat_of_zero_le h0
  have hn : n < bases.length := by omega
  refine vc_skip ?_
  refine hK2 _ ?_
  refine vc_seq fun K5 hK5 => ?_
  refine vc_region ?_
  refine vo_move_pv rfl rfl ?_
  refine vo_len_pv rfl rfl Try.underlying23 ?_
  refine vo_make E85 rfl rfl rfl sd sd sd ?_
  refine vo_assign_ref rfl rfl ?_
  refine vo_nil ?_
  refine hK5 _ ?_
  refine vc_seq fun K6 hK6 => ?_
  refine vc_region ?_
  refine vo_move_ref rfl rfl ?_
  refine vo_move_pv rfl rfl ?_
  refine vo_index_ref rfl rfl rfl rfl E85.und inf4 sz4 sd sd ?_
  try simp only [Int.toNat_natCast]
  refine vo_store_own rfl rfl rfl inf4 sz4 (by decide) rfl sd ?_
  try simp only [set_ints, set_intss, set_bools, rep_bools, rep_ints, Int.toNat_natCast, Int.toNat_zero]
  refine vo_nil ?_
  refine hK6 _ ?_
  refine vc_seq fun K7 hK7 => ?_
  refine vc_seq fun K8 hK8 => ?_
  refine vc_region ?_
  refine vo_move_pv rfl rfl ?_
  refine vo_assign_pv rfl rfl ?_
  refine vo_nil ?_
  refine hK8 _ ?_
  refine vc_block ?_
  refine vc_stN ?_
  refine vc_loop [0, 5, 6] (fun mz vs rows => ∃ (i : Int) (m : List Bool), mz = i.toNat ∧ (0 ≤ i ∧ i < bases.length) ∧ (goB bases i.toNat m = abvB bases n) ∧ (m.length = bases.length) ∧ vs = [.pv false (.sl nl0 1 (bases.map ints)), .ref 0, i64 i] ∧ rows = [Row.own 4 1 (some false) true ((m).map boolP)]) (n) (le_len hC rfl) ⟨rfl, rfl⟩ ⟨n, (List.replicate bases.length false).set n true, rfl, (by omega), rfl, (by simp), rfl, (by simp only [List.length_map])⟩ ?_
  rintro mz vs rows - - ⟨i, m, rfl, hi, hg, hl, rfl, rfl⟩
  refine vc_seq fun K9 hK9 => ?_
  refine vc_seq fun K10 hK10 => ?_
  refine vc_region ?_
  refine vo_move_pv rfl rfl ?_
  refine vo_binI rfl rfl rfl rfl trivial ?_
  refine vo_nil ?_
  refine hK10 _ ?_
  refine vc_cond rfl (fun hc2 => ?_) (fun hc2 => ?_)
  ·try simp only [zq0, zq1, zq2, zq3, zq4, zq5, zq6, zq7, zq8, zq9, zqa, zqb, zqc, zqd, zqe, zqf] at hc2
   refine vc_skip ?_
   refine hK9 _ ?_
   refine vc_seq fun K11 hK11 => ?_
   refine vc_block ?_
   refine vc_seq fun K12 hK12 => ?_
   refine vc_region ?_
   refine vo_move_ref rfl rfl ?_
   refine vo_move_pv rfl rfl ?_
   refine vo_index_ref rfl rfl rfl rfl E85.und inf4 sz4 sd sd ?_
   try simp only [Int.toNat_natCast]
   refine vo_load_own rfl rfl rfl Try.underlying4 rfl sd (getD_bools _ _) rfl ?_
   try simp only [Int.toNat_natCast]
   refine vo_nil ?_
   refine hK12 _ ?_
   refine vc_cond rfl (fun hc3 => ?_) (fun hc3 => ?_)
   ·try simp only [zq0, zq1, zq2, zq3, zq4, zq5, zq6, zq7, zq8, zq9, zqa, zqb, zqc, zqd, zqe, zqf] at hc3
    refine vc_seq fun K13 hK13 => ?_
    refine vc_region ?_
    refine vo_move_pv rfl rfl ?_
    refine vo_move_pv rfl rfl ?_
    refine vo_index_pv (.sl none 1 []) rfl rfl rfl E23.und inf28 sz28 sd sd ?_
    simp only [Int.toNat_natCast, Int.toNat_zero, getD_ints, getD_intss, getD_bools, getD_bytes, PV.cells]
    refine vo_load_adr rfl rfl Try.underlying28 rfl ?_
    refine vo_len_pv rfl rfl Try.underlying28 ?_
    refine vo_move_pv rfl rfl ?_
    refine vo_nil ?_
    refine hK13 _ ?_
    refine vc_block ?_
    refine vc_stN ?_
    refine vc_loop [0, 5, 6, 31, 32, 33] (fun mz vs rows => ∃ (j : Nat) (m2 : List Bool), mz = (bases.getD i.toNat []).length - j ∧ (j ≤ (bases.getD i.toNat []).length) ∧ (mkB ((bases.getD i.toNat []).drop j) m2 = mkB (bases.getD i.toNat []) m) ∧ (m2.length = bases.length) ∧ vs = [.pv false (.sl nl0 1 (bases.map ints)), .ref 0, i64 i, .pv false (.sl none 1 ((bases.getD i.toNat []).map intP)), i64 ((bases.getD i.toNat []).map intP).length, i64 j] ∧ rows = [Row.own 4 1 (some false) true ((m2).map boolP)]) ((bases.getD i.toNat []).length) (le_len hC rfl) ⟨rfl, rfl⟩ ⟨0, m, rfl, Nat.zero_le _, rfl, hl, rfl, rfl⟩ ?_
    rintro mz vs rows - - ⟨j, m2, rfl, hk, hm2, hl2, rfl, rfl⟩
    have hLb := lens hlbases i.toNat (by omega)
    refine vc_seq fun K14 hK14 => ?_
    refine vc_region ?_
    refine vo_binI rfl rfl rfl rfl trivial ?_
    refine vo_nil ?_
    refine hK14 _ ?_
    refine vc_seq fun K15 hK15 => ?_
    refine vc_cond rfl (fun hc4 => ?_) (fun hc4 => ?_)
    ·try simp only [zq0, zq1, zq2, zq3, zq4, zq5, zq6, zq7, zq8, zq9, zqa, zqb, zqc, zqd, zqe, zqf] at hc4
     have hb := hv.bd (getD_mem (show j < (bases.getD i.toNat []).length by omega) 0)
     refine vc_skip ?_
     refine hK15 _ ?_
     refine vc_seq fun K16 hK16 => ?_
     refine vc_block ?_
     refine vc_seq fun K17 hK17 => ?_
     refine vc_region ?_
     refine vo_index_pv (.int .i64 0) rfl rfl rfl E28.und inf3 sz3 sd sd ?_
     simp only [Int.toNat_natCast, Int.toNat_zero, getD_ints, getD_intss, getD_bools, getD_bytes, PV.cells]
     refine vo_load_adr rfl rfl Try.underlying3 rfl ?_
     refine vo_assign_pv rfl rfl ?_
     refine vo_nil ?_
     refine hK17 _ ?_
     refine vc_region ?_
     refine vo_move_ref rfl rfl ?_
     refine vo_move_pv rfl rfl ?_
     refine vo_index_ref rfl rfl rfl rfl E85.und inf4 sz4 sd sd ?_
     try simp only [Int.toNat_natCast]
     refine vo_store_own rfl rfl rfl inf4 sz4 (by decide) rfl sd ?_
     try simp only [set_ints, set_intss, set_bools, rep_bools, rep_ints, Int.toNat_natCast, Int.toNat_zero]
     refine vo_nil ?_
     refine hK16 _ ?_
     refine vc_region ?_
     refine vo_binI rfl rfl rfl rfl sd ?_
     refine vo_move_pv rfl rfl ?_
     refine vo_nil ?_
     change again _ _ _ _ _ _
     refine again_mk rfl rfl rfl rfl ⟨_, ?_, j + 1, m2.set ((bases.getD i.toNat []).getD j 0).toNat true, rfl, ?_, ?_, ?_, rfl, rfl⟩
     ·omega
     ·omega
     ·exact (mkB_drop _ _ _ (by omega)).symm.trans hm2
     ·simpa using hl2
    ·try simp only [zq0, zq1, zq2, zq3, zq4, zq5, zq6, zq7, zq8, zq9, zqa, zqb, zqc, zqd, zqe, zqf] at hc4
     refine vc_exit ?_
     refine hK11 _ ?_
     refine vc_region ?_
     refine vo_move_pv rfl rfl ?_
     refine vo_binI rfl rfl rfl rfl sd ?_
     refine vo_assign_pv rfl rfl ?_
     refine vo_nil ?_
     change again _ _ _ _ _ _
     refine again_mk rfl rfl rfl rfl ⟨_, ?_, i - 1, m2, rfl, ?_, ?_, ?_, rfl, rfl⟩
     ·omega
     ·omega
     ·rw [← hg, goB_t hc2 hc3, ← hm2, List.drop_eq_nil_of_le (by omega)]; rfl
     ·exact hl2
   ·try simp only [zq0, zq1, zq2, zq3, zq4, zq5, zq6, zq7, zq8, zq9, zqa, zqb, zqc, zqd, zqe, zqf] at hc3
    refine vc_skip ?_
    refine hK11 _ ?_
    refine vc_region ?_
    refine vo_move_pv rfl rfl ?_
    refine vo_binI rfl rfl rfl rfl sd ?_
    refine vo_assign_pv rfl rfl ?_
    refine vo_nil ?_
    change again _ _ _ _ _ _
    refine again_mk rfl rfl rfl rfl ⟨_, ?_, i - 1, m, rfl, ?_, ?_, ?_, rfl, rfl⟩
    ·omega
    ·omega
    ·rw [← hg, goB_f hc2 hc3]
    ·exact hl
  ·try simp only [zq0, zq1, zq2, zq3, zq4, zq5, zq6, zq7, zq8, zq9, zqa, zqb, zqc, zqd, zqe, zqf] at hc2
   refine vc_exit ?_
   refine hK7 _ ?_
   refine vc_seq fun K18 hK18 => ?_
   refine vc_region ?_
   refine vo_move_ref rfl rfl ?_
   refine vo_call [] Try.func72 rfl rfl rfl rfl rfl rfl rfl (indicesOf_sat (marks := m) (by omega)) ?_
   rintro _ _ ⟨nl9, rfl, rfl⟩
   refine ⟨Nat.le_of_ble_eq_true rfl, ⟨rfl, rfl, rfl, rfl⟩, .inr ⟨rfl, rfl⟩, ?_⟩
   refine vo_stN ?_
   refine vo_assign_ref rfl rfl ?_
   refine vo_nil ?_
   refine hK18 _ ?_
   refine vc_ret ?_
   change retG _ _ _ _ _
   refine retG_one 1 hC rfl rfl rfl rfl rfl ?_
   exact ⟨_, rfl, rows_eq (g := intP) (by rw [abvR_of hv hn, abvL, ← hg, show i = 0 by omega]; rfl)⟩

end Go.Vl

namespace Go.Vl
set_option linter.unusedVariables false
set_option linter.unusedSimpArgs false
open Go.Proofs

end Go.Vl

namespace Go.Vl
set_option linter.unusedVariables false
set_option linter.unusedSimpArgs false
open Go.Proofs

theorem abvL_le {b : List (List Int)} (hv : VB b) {c : Nat} (hc : c < b.length) {x : Int} (h : x ∈ abvL b c) : 0 ≤ x ∧ x ≤ c := by
  obtain ⟨i, rfl, h2⟩ := (mem_abvL hv.bd' hc x).1 h
  have := h2.le hv.bd'; omega
def belR (b : List (List Int)) (c : Int) : List Int := if VB b ∧ 0 ≤ c ∧ c < b.length then belL b c.toNat else []
def OKLs (ls : List (List Int)) : Prop := (∀ l ∈ ls, OKL l 12) ∧ ls.length ≤ 6
instance {ls : List (List Int)} : Decidable (OKLs ls) := by unfold OKLs; infer_instance
def KeepP (long short : List Int) : Prop := OKL long 12 ∧ OKL short 12 ∧ kpN short long 0 = short.length
instance {a b : List Int} : Decidable (KeepP a b) := by unfold KeepP; infer_instance
def OC (b s : List (List Int)) : Prop := VS b s ∧ ∀ j, j < s.length → ∀ i, i < j → (s.getD i []).length > 0 → (s.getD j []).length > 0 → (i : Int) ∈ abvL b j
noncomputable instance {a b : List (List Int)} : Decidable (OC a b) := Classical.propDecidable _
end Go.Vl

namespace Go.Vl
set_option linter.unusedVariables false
set_option linter.unusedSimpArgs false
open Go.Proofs

theorem VB.take {b : List (List Int)} {k : Nat} (h : VB b) (h1 : 1 ≤ k) (h2 : k ≤ b.length) : VB (b.take k) := by
  obtain ⟨a1, a2, a3, a4⟩ := h
  have e : ∀ i, i < k → (b.take k).getD i [] = b.getD i [] := fun i hi => by simp [List.getD, List.getElem?_take, hi]
  have l : (b.take k).length = k := by rw [List.length_take]; omega
  exact ⟨by omega, by omega, by rw [e 0 (by omega)]; exact a3, fun i hi h0 => by rw [e i (by omega)]; exact a4 i (by omega) h0⟩
theorem abvR_ne {b : List (List Int)} {c : Int} (h : abvR b c ≠ []) : VB b ∧ 0 ≤ c ∧ c < b.length := by
  by_cases h1 : VB b ∧ 0 ≤ c ∧ c < b.length
  · exact h1
  · exact absurd (abvR_no h1) h
theorem abvR_mem {b : List (List Int)} {c x : Int} (h : x ∈ abvR b c) : (VB b ∧ 0 ≤ c ∧ c < b.length) ∧ 0 ≤ x ∧ x ≤ c ∧ Abv b c.toNat x.toNat := by
  have h1 := abvR_ne (List.ne_nil_of_mem h)
  obtain ⟨n, rfl⟩ := Int.eq_ofNat_of_zero_le h1.2.1
  rw [abvR_of h1.1 (by omega)] at h
  have h2 := abvL_le h1.1 (by omega) h
  obtain ⟨i, rfl, h3⟩ := (mem_abvL h1.1.bd' (by omega) x).1 h
  exact ⟨h1, h2.1, h2.2, h3⟩
theorem abvR_of_Abv {b : List (List Int)} (hv : VB b) {c x : Nat} (hc : c < b.length) (h : Abv b c x) : (x : Int) ∈ abvR b c := by
  rw [abvR_of hv hc]; exact (mem_abvL hv.bd' hc _).2 ⟨x, rfl, h⟩
end Go.Vl

/- From a function's contract to the row of a law over bytes. -/
namespace Go.Vl
set_option linter.unusedVariables false
set_option linter.unusedSimpArgs false
open Go.RowKit Go.WideShapes

theorem okWide_spot {P : Program} {W : World} {base : Nat} {t e : TypeId} {a : Addr} {len cap : Nat} (hT : P.underlying t = some (.slice e)) (h : Value.okWide P W .any base t (.slice (some a) len cap)) :
    a.spot = none ∧ a.block < W.heap.size := by
  simp only [Value.okWide, hT, Cell.okWide, Cell.ok, World.has] at h
  obtain ⟨_, _, _, h1, row, cells, h2, _⟩ := h
  refine ⟨h1, ?_⟩
  unfold World.shape? at h2
  rcases Nat.lt_or_ge a.block W.heap.size with h3 | h3
  · exact h3
  · rw [Array.getElem?_eq_none h3] at h2; cases h2

/-- What is known of bytes that come in. -/
def BytesAt (w : World) (a0 : Option Addr) (len cap : Nat) : Prop :=
  (a0 = none ∧ len = 0 ∧ cap = 0) ∨ ∃ (x : Addr) (zs : List Int), a0 = some x ∧ x.spot = none ∧ x.block < w.heap.size ∧ len ≤ cap ∧ zs.length = cap ∧
    (∀ i, i < zs.length → w.cell? (x.add i) = some (.int .u8 (zs.getD i 0))) ∧ ∀ n ∈ zs, (Lit.int .u8 n).wf = true

theorem bytes_pv {w : World} {a0 : Option Addr} {len cap : Nat} {G : Nat → Prop} (hG : ∀ b, b < w.heap.size → G b) (h : BytesAt w a0 len cap) :
    ∃ (nl : Option Bool) (c : List (Fin 256)), RP w G (.sl nl 1 (c.map byteP)) (.slice a0 len cap) := by
  rcases h with ⟨rfl, rfl, rfl⟩ | ⟨x, zs, rfl, hs, hb, hl, hz, hc, hw⟩
  · exact ⟨none, [], .nilsl _ _ (by simp)⟩
  · have hbd : ∀ i, i < zs.length → 0 ≤ zs.getD i 0 ∧ zs.getD i 0 < 256 := by
      intro i hi
      have hm : zs.getD i 0 ∈ zs := by simp [List.getD, List.getElem?_eq_getElem hi]
      have := hw _ hm
      generalize zs.getD i 0 = n at this ⊢
      simp [Lit.wf, IntKind.min, IntKind.max, IntKind.bits, IntKind.signed] at this
      omega
    let c : List (Fin 256) := (List.range len).map fun i => ⟨(zs.getD i 0).toNat % 256, Nat.mod_lt _ (by omega)⟩
    refine ⟨none, c, .sl none 1 _ x len cap (fun i _ => .int .u8 (zs.getD i 0)) (by simp) (fun _ => hs) (by simp [c]) hl (fun _ => hG _ hb) ?_ ?_ ?_⟩
    · intro i y hy
      simp only [List.getElem?_map] at hy
      cases hci : c[i]? with
      | none => rw [hci] at hy; simp at hy
      | some z =>
        rw [hci] at hy
        simp only [Option.map_some, Option.some.injEq] at hy
        subst hy
        exact fits_of rfl
    · intro i y j d hy hd
      simp only [List.getElem?_map] at hy
      cases hci : c[i]? with
      | none => rw [hci] at hy; simp at hy
      | some z =>
        rw [hci] at hy
        simp only [Option.map_some, Option.some.injEq] at hy
        subst hy
        have hi : i < len := by
          rcases Nat.lt_or_ge i len with h1 | h1
          · exact h1
          · have : c[i]? = none := List.getElem?_eq_none (by simp [c]; exact h1)
            rw [this] at hci; cases hci
        have hj : j = 0 := by
          cases j with
          | zero => rfl
          | succ j => simp [PV.cells] at hd
        subst hj
        have := hc i (by omega)
        rw [← this]
        congr 1
        obtain ⟨xb, xo, xs⟩ := x
        simp only at hs
        subst hs
        simp [Addr.add]
    · intro i y j d hy hd
      simp only [List.getElem?_map] at hy
      cases hci : c[i]? with
      | none => rw [hci] at hy; simp at hy
      | some z =>
        rw [hci] at hy
        simp only [Option.map_some, Option.some.injEq] at hy
        subst hy
        have hi : i < len := by
          rcases Nat.lt_or_ge i len with h1 | h1
          · exact h1
          · have : c[i]? = none := List.getElem?_eq_none (by simp [c]; exact h1)
            rw [this] at hci; cases hci
        have hj : j = 0 := by
          cases j with
          | zero => rfl
          | succ j => simp [PV.cells] at hd
        subst hj
        have hd2 : d = byteP z := by simpa [PV.cells] using hd.symm
        subst hd2
        have hz2 : ((z.val : Nat) : Int) = zs.getD i 0 := by
          have e : c[i]? = some ⟨(zs.getD i 0).toNat % 256, Nat.mod_lt _ (by omega)⟩ := by simp [c, hi]
          rw [e] at hci
          simp only [Option.some.injEq] at hci
          have hb := hbd i (by omega)
          rw [← hci]
          show (((zs.getD i 0).toNat % 256 : Nat) : Int) = _
          omega
        rw [← hz2]
        exact .int _ _

end Go.Vl

/- From a function's contract to the row of a law over lists of numbers, and numbers. -/
namespace Go.Vl
set_option linter.unusedVariables false
set_option linter.unusedSimpArgs false
open Go.RowKit Go.WideShapes Go.ChangeShapes

/-- The setting of a law's call. -/
def C0 (w : World) : Ctx := ⟨w, fun b => b < w.heap.size, 0, fun _ => default⟩
def G0 (w : World) : Bool → Nat → Prop := Gd (C0 w) [] (fun _ => default) w
theorem G0_of {w : World} {b : Nat} (h : b < w.heap.size) : G0 w false b := by
  refine ⟨h, ?_, fun _ => .inl h, fun e => by cases e⟩
  rintro ⟨id, ⟨r, hr, _⟩, _⟩
  simp at hr

theorem law_gen {P : Program} {f : FuncId} {w : World} {args : List SV} {vals : Array Value} (hl : vals.size = args.length)
    (hv : ∀ (j : Nat) (a : SV), args[j]? = some a → RS w (G0 w) (fun _ => default) 0 a (vals.getD j undef))
    (h : SatAt P f args [] (fun res rows => res = [bo true] ∧ rows = [])) :
    Calls P f vals w fun e w' => e = .returned (.bool true) ∧ Below w.heap.size w w' := by
  have hsim : SimM (C0 w) ⟨vals.size, enumE 0 args, []⟩ (fun _ => default) ⟨vals, []⟩ w := {
    defs := rfl
    size := rfl
    os := rfl
    tape := rfl
    output := rfl
    hsz := Nat.le_refl _
    old := fun _ _ _ => rfl
    bor := fun id hid => by cases hid
    nbl := Nat.zero_le _
    newb := fun id b _ ⟨r, hr, _⟩ => by simp at hr
    dist := fun i j b ⟨r, hr, _⟩ => by simp at hr
    rows := fun id r hr => by simp at hr
    env := fun t => by
      show RS _ _ _ _ (look (enumE 0 _) t) _
      rw [look_enumE]
      simp only [Nat.zero_le, if_true, Nat.sub_zero]
      cases ha : args[t]? with
      | none => exact .any _
      | some a => exact hv t a ha }
  refine (h (C0 w) (fun _ => default) vals rfl (fun b hb => hb) hl hsim).mono fun e w' hx => ?_
  obtain ⟨us, res, rows', m', rfl, hus, hs, rfl, rfl⟩ := hx
  have hv := hs.env 0
  have h1 : us.size = 1 := hus
  refine ⟨?_, hs.os, hs.tape, hs.output, hs.hsz, fun k hk => hs.old k hk (fun id hid => by cases hid)⟩
  have hv : RS w' (Gd (C0 w) [] m' w') m' 0 (bo true) (us.getD 0 undef) := hv
  have hb := hv.pv_inv
  unfold pack
  rw [dif_pos h1]
  simp only [Array.getD, h1, Nat.lt_succ_self, dif_pos, Nat.zero_lt_one] at hb
  cases hu : us[0]
  all_goals (simp only [Array.getInternal_eq_getElem, hu] at hb; cases hb)
  rfl

section
variable {H : Type} {enc : TypeId × Value → H} {P : Program} {w : World} {base : Nat} {held : Bool}
end
end Go.Vl

/- Arguments of any type of numbers, truth values, slices and structs, opened by their types. -/
namespace Go.Vl
set_option linter.unusedVariables false
set_option linter.unusedSimpArgs false
open Go.RowKit Go.ChangeShapes Go.WideShapes Go.ChangeAt

/-- A value of the type reads as one of the values that pv tells. -/
def Opens (P : Program) (t : TypeId) (k : Nat) {α : Type} (pv : α → PV) (good : α → Prop) : Prop :=
  ∀ (H : Type) (enc : TypeId × Value → H) (w : World) (base : Nat) (held : Bool) (fuel : Nat) (cs : List Value) (x : DataW H × List MemPlace), DataW.trod enc P w base (fun _ => true) held fuel t cs = some x →
    ∃ a, good a ∧ (pv a).fits k ∧ cs.length = k ∧ ∀ (j : Nat) (c : PV) (v : Value), (pv a).cells[j]? = some c → cs[j]? = some v → RP w (G0 w false) c v

def i64R (n : Int) : Prop := -9223372036854775808 ≤ n ∧ n ≤ 9223372036854775807

/-- A struct, field by field, from a place on. -/
def OpenF (P : Program) (off : Nat) (fs : List Field) (k : Nat) {α : Type} (cells : α → List PV) (good : α → Prop) : Prop :=
  ∀ (H : Type) (enc : TypeId × Value → H) (w : World) (base : Nat) (held : Bool) (fuel : Nat) (cs : List Value),
    (∀ (i : Nat) (f : Field), fs[i]? = some f → ∃ x, DataW.trod enc P w base (fun _ => true) held fuel f.type ((cs.drop f.offset).take (P.cellsOf f.type)) = some x) →
    ∃ a, good a ∧ (cells a).length = k ∧ (∀ c ∈ cells a, c.isAgg = false) ∧ ∀ (j : Nat) (c : PV) (v : Value), (cells a)[j]? = some c → ((cs.drop off).take k)[j]? = some v → RP w (G0 w false) c v

/-- The value of an argument of one cell. -/
theorem Opens.one {P : Program} {t : TypeId} {α : Type} {pv : α → PV} {good : α → Prop} (h : Opens P t 1 pv good) (hna : ∀ a, (pv a).cells = [pv a]) {H : Type} {enc : TypeId × Value → H} {w : World} {base : Nat} {held : Bool} {v : Value} {d : DataW H} {ps : List MemPlace} (hv : v.cells.toList = [v])
    (hd : DataW.Trod enc P w base (fun _ => true) held t v d ps) : ∃ a, good a ∧ RP w (G0 w false) (pv a) v := by
  obtain ⟨fuel, hf⟩ := hd
  rw [hv] at hf
  obtain ⟨a, g1, g2, g3, g4⟩ := h H enc w base held fuel _ _ hf
  exact ⟨a, g1, g4 0 _ _ (by rw [hna]; rfl) rfl⟩

/-- The value of an argument that is a struct. -/
theorem Opens.agg {P : Program} {t k : Nat} {α : Type} {cells : α → List PV} {good : α → Prop} (h : Opens P t k (fun a => .agg (cells a)) good) {H : Type} {enc : TypeId × Value → H} {w : World} {base : Nat} {held : Bool} {cs : Array Value} {d : DataW H} {ps : List MemPlace}
    (hd : DataW.Trod enc P w base (fun _ => true) held t (.agg cs) d ps) : ∃ a, good a ∧ RP w (G0 w false) (.agg (cells a)) (.agg cs) := by
  obtain ⟨fuel, hf⟩ := hd
  obtain ⟨a, g1, g2, g3, g4⟩ := h H enc w base held fuel _ _ hf
  refine ⟨a, g1, .agg _ _ ?_ (fun j c hc => g2.2 j c hc) (fun j c v hc hv => g4 j c v hc ?_)⟩
  · have h1 : (cells a).length = k := g2.1
    have h2 : cs.toList.length = k := g3
    rw [h1, ← h2]; simp
  · show cs.toList[j]? = some v
    simpa using hv
end Go.Vl

namespace Go.Vl
set_option linter.unusedVariables false
set_option linter.unusedSimpArgs false
open Go.Proofs

structure OpM where
  who : Int
  name : Int
  value : Int
  gone : Bool
  deriving Inhabited, DecidableEq
abbrev opP (o : OpM) : PV := .agg [.int .i64 o.who, .int .i64 o.name, .int .i64 o.value, .bool o.gone]
abbrev pairP (p : Int × Int) : PV := .agg [.int .i64 p.1, .int .i64 p.2]
structure InstM where
  shares : Bool
  order : List Int
  values : List Int
  own : List (Int × Int)
  deriving Inhabited, DecidableEq
abbrev instP (x : InstM) : PV := .agg [.bool x.shares, .sl none 1 (x.order.map intP), .sl none 1 (x.values.map intP), .sl none 2 (x.own.map pairP)]
structure HeapM where
  keys : List Int
  insts : List InstM
  deriving Inhabited, DecidableEq
abbrev heapP (h : HeapM) : PV := .agg [.sl none 1 (h.keys.map intP), .sl none 4 (h.insts.map instP)]
theorem getD_map0 {α β : Type} (f : α → β) (l : List α) (k : Nat) (d : α) (d' : β) (h : f d = d') : (l.map f).getD k d' = f (l.getD k d) := by
  subst h
  simp only [List.getD, List.getElem?_map]
  cases l[k]? <;> rfl
theorem getD_ops (l : List OpM) (k : Nat) : (l.map opP).getD k (.agg [.int .i64 0, .int .i64 0, .int .i64 0, .bool false]) = opP (l.getD k ⟨0, 0, 0, false⟩) := getD_map0 opP l k ⟨0, 0, 0, false⟩ _ rfl
theorem getD_pairs (l : List (Int × Int)) (k : Nat) : (l.map pairP).getD k (.agg [.int .i64 0, .int .i64 0]) = pairP (l.getD k (0, 0)) := getD_map0 pairP l k (0, 0) _ rfl
theorem getD_insts (l : List InstM) (k : Nat) : (l.map instP).getD k (.agg [.bool false, .sl none 1 [], .sl none 1 [], .sl none 2 []]) = instP (l.getD k ⟨false, [], [], []⟩) := getD_map0 instP l k ⟨false, [], [], []⟩ _ rfl
/-- A copy that is under way. -/
def cpy {α : Type} (d : α) (l : List α) (k : Nat) : List α := l.take k ++ List.replicate (l.length - k) d
def okOp (o : OpM) : Prop := (0 ≤ o.who ∧ o.who ≤ 3) ∧ (0 ≤ o.name ∧ o.name ≤ 9) ∧ (0 ≤ o.value ∧ o.value ≤ 99)
instance (o : OpM) : Decidable (okOp o) := by unfold okOp; exact inferInstance
def VOps (l : List OpM) : Prop := l.length ≤ 40 ∧ ∀ o ∈ l, okOp o
instance (l : List OpM) : Decidable (VOps l) := by unfold VOps; exact inferInstance

end Go.Vl

namespace Go.Vl
set_option linter.unusedVariables false
set_option linter.unusedSimpArgs false
open Go.Proofs
open Go.Proofs
end Go.Vl

namespace Go.Vl
set_option linter.unusedVariables false
set_option linter.unusedSimpArgs false
open Go.Proofs
open Go.Proofs
def nms (l : List (Int × Int)) : List Int := l.map Prod.fst
@[simp] theorem nms_len (l : List (Int × Int)) : (nms l).length = l.length := by simp [nms]
theorem take_nms (l : List (Int × Int)) (k : Nat) : (nms l).take k = nms (l.take k) := by simp [nms]
def SPairs (a b : List (Int × Int)) : Prop := a.length ≤ 40 ∧ (nms a).Nodup ∧ a.length = b.length ∧ ∀ p ∈ a, p ∈ b
instance (a b : List (Int × Int)) : Decidable (SPairs a b) := by unfold SPairs; exact inferInstance
end Go.Vl

namespace Go.Vl
set_option linter.unusedVariables false
set_option linter.unusedSimpArgs false
open Go.Proofs

structure AttrM where
  name : Int
  kind : Int
  value : Int
  deriving Inhabited, DecidableEq
abbrev attrP (a : AttrM) : PV := .agg [.int .i64 a.name, .int .i64 a.kind, .int .i64 a.value]
abbrev attrsP (l : List AttrM) : PV := .sl none 3 (l.map attrP)
structure ObjM where
  cls : Int
  pairs : List (Int × Int)
  deriving Inhabited, DecidableEq
abbrev objP (o : ObjM) : PV := .agg [.int .i64 o.cls, .sl none 2 (o.pairs.map pairP)]
structure WorldM where
  bases : List (List Int)
  attrs : List (List AttrM)
  objs : List ObjM
  deriving Inhabited, DecidableEq
abbrev worldP (w : WorldM) : PV := .agg [.sl none 1 (w.bases.map ints), .sl none 1 (w.attrs.map attrsP), .sl none 2 (w.objs.map objP)]
theorem getD_attrs (l : List AttrM) (k : Nat) : (l.map attrP).getD k (.agg [.int .i64 0, .int .i64 0, .int .i64 0]) = attrP (l.getD k ⟨0, 0, 0⟩) := getD_map0 attrP l k ⟨0, 0, 0⟩ _ rfl
theorem getD_attrss (l : List (List AttrM)) (k : Nat) : (l.map attrsP).getD k (.sl none 3 []) = attrsP (l.getD k []) := getD_map0 attrsP l k [] _ rfl
theorem getD_objs (l : List ObjM) (k : Nat) : (l.map objP).getD k (.agg [.int .i64 0, .sl none 2 []]) = objP (l.getD k ⟨0, []⟩) := getD_map0 objP l k ⟨0, []⟩ _ rfl
open Go.Proofs
def GO63 (x : ObjM) : Prop := x.pairs.length ≤ 9223372036854775807
def GW63 (w : WorldM) : Prop := (w.bases.length ≤ 9223372036854775807 ∧ ∀ l ∈ w.bases, l.length ≤ 9223372036854775807) ∧ (w.attrs.length ≤ 9223372036854775807 ∧ ∀ l ∈ w.attrs, l.length ≤ 9223372036854775807) ∧ w.objs.length ≤ 9223372036854775807 ∧ ∀ o ∈ w.objs, GO63 o
def SO (x : ObjM) : Prop := x.pairs.length ≤ 2000000
def SW (w : WorldM) : Prop := (w.bases.length ≤ 2000000 ∧ ∀ l ∈ w.bases, l.length ≤ 2000000) ∧ (w.attrs.length ≤ 2000000 ∧ ∀ l ∈ w.attrs, l.length ≤ 2000000) ∧ w.objs.length ≤ 2000000 ∧ ∀ o ∈ w.objs, SO o
theorem getD_all {α : Type} {p : α → Prop} {l : List α} (h : ∀ x ∈ l, p x) (d : α) (hd : p d) (k : Nat) : p (l.getD k d) := by
  by_cases hk : k < l.length
  · exact h _ (getD_mem hk d)
  · rw [List.getD, List.getElem?_eq_none (by omega)]; exact hd
theorem rowI_eq {el : TypeId} {e : Nat} {nl : Option Bool} {f : Bool} {xs ys : List PV} (h : xs = ys) : [Row.own el e nl f xs] = [Row.own el e nl f ys] := by rw [h]
end Go.Vl

namespace Go.Vl
set_option linter.unusedVariables false
set_option linter.unusedSimpArgs false
open Go.Proofs

/-- The places of the values that are there. -/
def plc (vs : List Int) (k : Nat) : List Int := ((List.range k).filter fun i => decide (vs.getD i 0 ≠ -1)).map Int.ofNat
def TPl (order vs : List Int) : Prop := (∀ x ∈ plc vs vs.length, x ∈ order) ∧ order.length = (plc vs vs.length).length
instance (a b : List Int) : Decidable (TPl a b) := by unfold TPl; exact inferInstance
def okPair (p : Int × Int) : Prop := (0 ≤ p.1 ∧ p.1 ≤ 9) ∧ (0 ≤ p.2 ∧ p.2 ≤ 99)
instance (p : Int × Int) : Decidable (okPair p) := by unfold okPair; exact inferInstance
def AOwn (l : List (Int × Int)) : Prop := (nms l).Nodup ∧ ∀ p ∈ l, okPair p
instance (l : List (Int × Int)) : Decidable (AOwn l) := by unfold AOwn; exact inferInstance
def AShared (vs : List Int) : Prop := (∀ v ∈ vs, -1 ≤ v ∧ v ≤ 99) ∧ (vs.length = 0 ∨ 0 ≤ vs.getD (vs.length - 1) 0)
instance (l : List Int) : Decidable (AShared l) := by unfold AShared; exact inferInstance
def VInst (n : Nat) (x : InstM) : Prop := if x.shares = true then x.own.length = 0 ∧ x.values.length ≤ n ∧ AShared x.values ∧ TPl x.order x.values else x.order.length = 0 ∧ x.values.length = 0 ∧ AOwn x.own
instance (n : Nat) (x : InstM) : Decidable (VInst n x) := by unfold VInst; exact inferInstance
def VHeap (h : HeapM) : Prop := (h.keys.length ≤ 5 ∧ h.keys.Nodup) ∧ (∀ k ∈ h.keys, 0 ≤ k ∧ k ≤ 9) ∧ h.insts.length = 4 ∧ ∀ x ∈ h.insts, VInst h.keys.length x
instance (h : HeapM) : Decidable (VHeap h) := by unfold VHeap; exact inferInstance
/-- What trimming leaves. -/
def TrM (vs : List Int) (m : Nat) : Prop := m ≤ vs.length ∧ (∀ i, m ≤ i → i < vs.length → vs.getD i 0 = -1) ∧ (m = 0 ∨ vs.getD (m - 1) 0 ≠ -1)
end Go.Vl

namespace Go.Vl
set_option linter.unusedVariables false
set_option linter.unusedSimpArgs false
open Go.Proofs

end Go.Vl

namespace Go.Vl
set_option linter.unusedVariables false
set_option linter.unusedSimpArgs false
open Go.Proofs
theorem fM_eq (n : Int) : ∀ (l : List Int) (i : Int), findM n l i = fM n l i
  | [], _ => rfl
  | x :: l, i => by simp only [findM, fM]; rw [fM_eq n l (i+1)]
theorem bhd_find {x : Int} {l : List Int} : 0 < findM x l 0 ↔ bhd x l := by rw [fM_eq]; exact Iff.rfl
theorem anyB_of {ls : List (List Int)} {x : Int} {k : Nat} (h : k < ls.length) (h2 : 0 < findM x (ls.getD k []) 0) : anyB ls x := ⟨_, getD_mem h [], bhd_find.1 h2⟩
theorem anyB_succ {ls : List (List Int)} {x : Int} {k : Nat} (h : k < ls.length) (h1 : ∀ l ∈ ls.take k, ¬ bhd x l) (h2 : ¬ 0 < findM x (ls.getD k []) 0) : ∀ l ∈ ls.take (k+1), ¬ bhd x l := (all_take_succ h []).2 ⟨h1, fun e => h2 (bhd_find.2 e)⟩
theorem anyB_no {ls : List (List Int)} {x : Int} {k : Nat} (h : ls.length ≤ k) (h1 : ∀ l ∈ ls.take k, ¬ bhd x l) : ¬ anyB ls x := by
  rw [take_all h] at h1
  rintro ⟨l, h2, h3⟩
  exact h1 l h2 h3

theorem isBehind_sat {nl0 : Option Bool} {lists : List (List Int)} {x : Int} (hlists : lists.length < 1000000000) (hllists : ∀ l ∈ lists, l.length < 1000000000)  : SatAt Try.prog 177 [.pv false (.sl nl0 1 (lists.map ints)), i64 x] [] (fun res rows => res = [bo (decide (anyB lists x))] ∧ rows = []) := by
 refine sat_entry (ts := [4]) Try.func177 rfl rfl (by decide) (Nat.le_of_ble_eq_true rfl) fun C hC => ?_
 rw [Try.ntmps177]
 replace hC : C.nb = 0 := hC
 refine vc_seq fun K1 hK1 => ?_
 refine vc_region ?_
 refine vo_assign_pv rfl rfl ?_
 refine vo_nil ?_
 refine hK1 _ ?_
 refine vc_seq fun K2 hK2 => ?_
 refine vc_seq fun K3 hK3 => ?_
 refine vc_region ?_
 refine vo_move_pv rfl rfl ?_
 refine vo_len_pv rfl rfl Try.underlying23 ?_
 refine vo_move_pv rfl rfl ?_
 refine vo_nil ?_
 refine hK3 _ ?_
 refine vc_block ?_
 refine vc_stN ?_
 refine vc_loopF [1, 7, 8] [9] [i64 x, .pv false (.sl nl0 1 (lists.map ints)), i64 (lists.map ints).length] _ (fun mz vs => ∃ (k : Nat), mz = lists.length - k ∧ (k ≤ lists.length) ∧ (∀ l ∈ lists.take k, ¬ bhd x l) ∧ vs = [i64 k]) (lists.length) rfl rfl (le_len hC rfl) ⟨rfl, rfl, rfl⟩ ⟨0, rfl, Nat.zero_le _, (by simp), rfl⟩ ?_
 rintro mz vs - ⟨k, rfl, hk, hf, rfl⟩
 refine vc_stN ?_
 refine vc_seq fun K4 hK4 => ?_
 refine vc_region ?_
 refine vo_binI rfl rfl rfl rfl trivial ?_
 refine vo_nil ?_
 refine hK4 _ ?_
 refine vc_seq fun K5 hK5 => ?_
 refine vc_cond rfl (fun hc1 => ?_) (fun hc1 => ?_)
 ·try simp only [zq0, zq1, zq2, zq3, zq4, zq5, zq6, zq7, zq8, zq9, zqa, zqb, zqc, zqd, zqe, zqf] at hc1
  refine vc_skip ?_
  refine hK5 _ ?_
  refine vc_seq fun K6 hK6 => ?_
  refine vc_block ?_
  refine vc_seq fun K7 hK7 => ?_
  refine vc_region ?_
  refine vo_index_pv (.sl none 1 []) rfl rfl rfl E23.und inf28 sz28 sd sd ?_
  simp only [Int.toNat_natCast, Int.toNat_zero, getD_ints, getD_intss, getD_bools, getD_bytes, PV.cells]
  refine vo_load_adr rfl rfl Try.underlying28 rfl ?_
  refine vo_assign_pv rfl rfl ?_
  refine vo_nil ?_
  refine hK7 _ ?_
  refine vc_seq fun K8 hK8 => ?_
  refine vc_region ?_
  refine vo_move_pv rfl rfl ?_
  refine vo_move_pv rfl rfl ?_
  refine vo_call0 Try.func134 rfl rfl rfl rfl (Index_sat (lens hllists _ (by omega))) ?_
  rintro _ _ ⟨rfl, rfl⟩
  refine ⟨rfl, rfl, .inl rfl, ?_⟩
  refine vo_binI rfl rfl rfl rfl trivial ?_
  refine vo_nil ?_
  refine hK8 _ ?_
  refine vc_cond rfl (fun hc2 => ?_) (fun hc2 => ?_)
  ·try simp only [zq0, zq1, zq2, zq3, zq4, zq5, zq6, zq7, zq8, zq9, zqa, zqb, zqc, zqd, zqe, zqf] at hc2
   refine vc_seq fun K9 hK9 => ?_
   refine vc_region ?_
   refine vo_assign_pv rfl rfl ?_
   refine vo_nil ?_
   refine hK9 _ ?_
   refine vc_ret ?_
   change retPv _ _ _ _ _
   refine retPv_mk rfl rfl rfl ⟨?_, rfl⟩
   refine (congrArg (fun b => [bo b]) (?_ : _ = _) : [bo _] = [bo _])
   exact bT (anyB_of (k := k) (by omega) (by omega))
  ·try simp only [zq0, zq1, zq2, zq3, zq4, zq5, zq6, zq7, zq8, zq9, zqa, zqb, zqc, zqd, zqe, zqf] at hc2
   refine vc_skip ?_
   refine hK6 _ ?_
   refine vc_region ?_
   refine vo_binI rfl rfl rfl rfl sd ?_
   refine vo_move_pv rfl rfl ?_
   refine vo_nil ?_
   change againF _ _ _ _ _ _ _ _ _
   refine againF_mk rfl rfl rfl rfl rfl rfl ⟨_, ?_, k + 1, rfl, ?_, ?_, rfl⟩
   ·omega
   ·omega
   ·exact anyB_succ (by omega) hf (by omega)
 ·try simp only [zq0, zq1, zq2, zq3, zq4, zq5, zq6, zq7, zq8, zq9, zqa, zqb, zqc, zqd, zqe, zqf] at hc1
  refine vc_exit ?_
  refine hK2 _ ?_
  refine vc_seq fun K10 hK10 => ?_
  refine vc_region ?_
  refine vo_assign_pv rfl rfl ?_
  refine vo_nil ?_
  refine hK10 _ ?_
  refine vc_ret ?_
  change retPv _ _ _ _ _
  refine retPv_mk rfl rfl rfl ⟨?_, rfl⟩
  refine (congrArg (fun b => [bo b]) (?_ : _ = _) : [bo _] = [bo _])
  exact bF (anyB_no (by omega) hf)


theorem goodHead_sat {nl0 : Option Bool} {lists : List (List Int)} {x : Int} (hlists : lists.length < 1000000000) (hllists : ∀ l ∈ lists, l.length < 1000000000)  : SatAt Try.prog 161 [.pv false (.sl nl0 1 (lists.map ints)), i64 x] [] (fun res rows => res = [bo (decide (¬ anyB lists x))] ∧ rows = []) := by
 refine sat_entry (ts := [4]) Try.func161 rfl rfl (by decide) (Nat.le_of_ble_eq_true rfl) fun C hC => ?_
 rw [Try.ntmps161]
 replace hC : C.nb = 0 := hC
 refine vc_seq fun K1 hK1 => ?_
 refine vc_region ?_
 refine vo_assign_pv rfl rfl ?_
 refine vo_nil ?_
 refine hK1 _ ?_
 refine vc_seq fun K2 hK2 => ?_
 refine vc_seq fun K3 hK3 => ?_
 refine vc_region ?_
 refine vo_assign_pv rfl rfl ?_
 refine vo_nil ?_
 refine hK3 _ ?_
 refine vc_block ?_
 refine vc_stN ?_
 refine vc_loopF [0, 1] [5] [.pv false (.sl nl0 1 (lists.map ints)), i64 x] _ (fun mz vs => ∃ (k : Nat), mz = lists.length - k ∧ (k ≤ lists.length) ∧ (∀ l ∈ lists.take k, ¬ bhd x l) ∧ vs = [i64 k]) (lists.length) rfl rfl (le_len hC rfl) ⟨rfl, rfl, rfl⟩ ⟨0, rfl, Nat.zero_le _, (by simp), rfl⟩ ?_
 rintro mz vs - ⟨k, rfl, hk, hf, rfl⟩
 refine vc_stN ?_
 refine vc_seq fun K4 hK4 => ?_
 refine vc_seq fun K5 hK5 => ?_
 refine vc_region ?_
 refine vo_move_pv rfl rfl ?_
 refine vo_move_pv rfl rfl ?_
 refine vo_len_pv rfl rfl Try.underlying23 ?_
 refine vo_binI rfl rfl rfl rfl trivial ?_
 refine vo_nil ?_
 refine hK5 _ ?_
 refine vc_cond rfl (fun hc1 => ?_) (fun hc1 => ?_)
 ·try simp only [zq0, zq1, zq2, zq3, zq4, zq5, zq6, zq7, zq8, zq9, zqa, zqb, zqc, zqd, zqe, zqf] at hc1
  refine vc_skip ?_
  refine hK4 _ ?_
  refine vc_seq fun K6 hK6 => ?_
  refine vc_block ?_
  refine vc_seq fun K7 hK7 => ?_
  refine vc_region ?_
  refine vo_move_pv rfl rfl ?_
  refine vo_move_pv rfl rfl ?_
  refine vo_index_pv (.sl none 1 []) rfl rfl rfl E23.und inf28 sz28 sd sd ?_
  simp only [Int.toNat_natCast, Int.toNat_zero, getD_ints, getD_intss, getD_bools, getD_bytes, PV.cells]
  refine vo_load_adr rfl rfl Try.underlying28 rfl ?_
  refine vo_move_pv rfl rfl ?_
  refine vo_call0 Try.func111 rfl rfl rfl rfl (placeIn_sat (lens hllists _ (by omega))) ?_
  rintro _ _ ⟨rfl, rfl⟩
  refine ⟨rfl, rfl, .inl rfl, ?_⟩
  refine vo_binI rfl rfl rfl rfl trivial ?_
  refine vo_nil ?_
  refine hK7 _ ?_
  refine vc_cond rfl (fun hc2 => ?_) (fun hc2 => ?_)
  ·try simp only [zq0, zq1, zq2, zq3, zq4, zq5, zq6, zq7, zq8, zq9, zqa, zqb, zqc, zqd, zqe, zqf] at hc2
   refine vc_seq fun K8 hK8 => ?_
   refine vc_region ?_
   refine vo_assign_pv rfl rfl ?_
   refine vo_nil ?_
   refine hK8 _ ?_
   refine vc_ret ?_
   change retPv _ _ _ _ _
   refine retPv_mk rfl rfl rfl ⟨?_, rfl⟩
   refine (congrArg (fun b => [bo b]) (?_ : _ = _) : [bo _] = [bo _])
   exact bF (fun h => h (anyB_of (k := k) (by omega) (by omega)))
  ·try simp only [zq0, zq1, zq2, zq3, zq4, zq5, zq6, zq7, zq8, zq9, zqa, zqb, zqc, zqd, zqe, zqf] at hc2
   refine vc_skip ?_
   refine hK6 _ ?_
   refine vc_region ?_
   refine vo_move_pv rfl rfl ?_
   refine vo_binI rfl rfl rfl rfl sd ?_
   refine vo_assign_pv rfl rfl ?_
   refine vo_nil ?_
   change againF _ _ _ _ _ _ _ _ _
   refine againF_mk rfl rfl rfl rfl rfl rfl ⟨_, ?_, k + 1, rfl, ?_, ?_, rfl⟩
   ·omega
   ·omega
   ·exact anyB_succ (by omega) hf (by omega)
 ·try simp only [zq0, zq1, zq2, zq3, zq4, zq5, zq6, zq7, zq8, zq9, zqa, zqb, zqc, zqd, zqe, zqf] at hc1
  refine vc_exit ?_
  refine hK2 _ ?_
  refine vc_seq fun K9 hK9 => ?_
  refine vc_region ?_
  refine vo_assign_pv rfl rfl ?_
  refine vo_nil ?_
  refine hK9 _ ?_
  refine vc_ret ?_
  change retPv _ _ _ _ _
  refine retPv_mk rfl rfl rfl ⟨?_, rfl⟩
  refine (congrArg (fun b => [bo b]) (?_ : _ = _) : [bo _] = [bo _])
  exact bT (anyB_no (by omega) hf)


theorem firstFree_sat {nl0 : Option Bool} {lists : List (List Int)} (hlists : lists.length < 1000000000) (hllists : ∀ l ∈ lists, l.length < 1000000000) : SatAt Try.prog 172 [.pv false (.sl nl0 1 (lists.map ints))] [] (fun res rows => res = [i64 ((fhM lists).getD 0), bo (fhM lists).isSome] ∧ rows = []) := by
 refine sat_entry (ts := [2, 3]) Try.func172 rfl rfl (by decide) (Nat.le_of_ble_eq_true rfl) fun C hC => ?_
 rw [Try.ntmps172]
 replace hC : C.nb = 0 := hC
 refine vc_seq fun K1 hK1 => ?_
 refine vc_region ?_
 refine vo_assign_pv rfl rfl ?_
 refine vo_assign_pv rfl rfl ?_
 refine vo_nil ?_
 refine hK1 _ ?_
 refine vc_seq fun K2 hK2 => ?_
 refine vc_seq fun K3 hK3 => ?_
 refine vc_region ?_
 refine vo_move_pv rfl rfl ?_
 refine vo_len_pv rfl rfl Try.underlying23 ?_
 refine vo_move_pv rfl rfl ?_
 refine vo_nil ?_
 refine hK3 _ ?_
 refine vc_block ?_
 refine vc_stN ?_
 refine vc_loopF [0, 7, 8] [9] [.pv false (.sl nl0 1 (lists.map ints)), .pv false (.sl nl0 1 (lists.map ints)), i64 (lists.map ints).length] _ (fun mz vs => ∃ (k : Nat), mz = lists.length - k ∧ (k ≤ lists.length) ∧ (fhM lists = fhF lists (lists.drop k)) ∧ vs = [i64 k]) (lists.length) rfl rfl (le_len hC rfl) ⟨rfl, rfl, rfl⟩ ⟨0, rfl, Nat.zero_le _, rfl, rfl⟩ ?_
 rintro mz vs - ⟨k, rfl, hk, hf, rfl⟩
 refine vc_stN ?_
 refine vc_seq fun K4 hK4 => ?_
 refine vc_region ?_
 refine vo_binI rfl rfl rfl rfl trivial ?_
 refine vo_nil ?_
 refine hK4 _ ?_
 refine vc_seq fun K5 hK5 => ?_
 refine vc_cond rfl (fun hc1 => ?_) (fun hc1 => ?_)
 ·try simp only [zq0, zq1, zq2, zq3, zq4, zq5, zq6, zq7, zq8, zq9, zqa, zqb, zqc, zqd, zqe, zqf] at hc1
  refine vc_skip ?_
  refine hK5 _ ?_
  refine vc_seq fun K6 hK6 => ?_
  refine vc_block ?_
  refine vc_seq fun K7 hK7 => ?_
  refine vc_region ?_
  refine vo_index_pv (.sl none 1 []) rfl rfl rfl E23.und inf28 sz28 sd sd ?_
  simp only [Int.toNat_natCast, Int.toNat_zero, getD_ints, getD_intss, getD_bools, getD_bytes, PV.cells]
  refine vo_load_adr rfl rfl Try.underlying28 rfl ?_
  refine vo_assign_pv rfl rfl ?_
  refine vo_nil ?_
  refine hK7 _ ?_
  refine vc_seq fun K8 hK8 => ?_
  refine vc_region ?_
  refine vo_move_pv rfl rfl ?_
  refine vo_len_pv rfl rfl Try.underlying28 ?_
  refine vo_binI rfl rfl rfl rfl trivial ?_
  refine vo_move_pv rfl rfl ?_
  refine vo_split 16 rfl (fun hg2 => ?_) (fun hg2 => ?_)
  ·try simp only [zq0, zq1, zq2, zq3, zq4, zq5, zq6, zq7, zq8, zq9, zqa, zqb, zqc, zqd, zqe, zqf] at hg2
   refine vo_guard_on rfl rfl rfl ?_
   refine vo_move_pv rfl rfl ?_
   refine vo_guard_on rfl rfl rfl ?_
   refine vo_move_pv rfl rfl ?_
   refine vo_guard_on rfl rfl rfl ?_
   refine vo_index_pv (.int .i64 0) rfl rfl rfl E28.und inf3 sz3 sd sd ?_
   simp only [Int.toNat_natCast, Int.toNat_zero, getD_ints, getD_intss, getD_bools, getD_bytes, PV.cells]
   refine vo_guard_on rfl rfl rfl ?_
   refine vo_load_adr rfl rfl Try.underlying3 rfl ?_
   refine vo_guard_on rfl rfl rfl ?_
   refine vo_call0 Try.func177 rfl rfl rfl rfl (isBehind_sat hlists hllists) ?_
   rintro _ _ ⟨rfl, rfl⟩
   refine ⟨rfl, rfl, .inl rfl, ?_⟩
   refine vo_guard_on rfl rfl rfl ?_
   refine vo_not rfl rfl ?_
   refine vo_pick_t rfl rfl ?_
   refine vo_nil ?_
   refine hK8 _ ?_
   refine vc_cond rfl (fun hc3 => ?_) (fun hc3 => ?_)
   ·try simp only [zq0, zq1, zq2, zq3, zq4, zq5, zq6, zq7, zq8, zq9, zqa, zqb, zqc, zqd, zqe, zqf] at hc3
    refine vc_seq fun K9 hK9 => ?_
    refine vc_region ?_
    refine vo_move_pv rfl rfl ?_
    refine vo_index_pv (.int .i64 0) rfl rfl rfl E28.und inf3 sz3 sd sd ?_
    simp only [Int.toNat_natCast, Int.toNat_zero, getD_ints, getD_intss, getD_bools, getD_bytes, PV.cells]
    refine vo_load_adr rfl rfl Try.underlying3 rfl ?_
    refine vo_assign_pv rfl rfl ?_
    refine vo_assign_pv rfl rfl ?_
    refine vo_nil ?_
    refine hK9 _ ?_
    refine vc_ret ?_
    change retPv _ _ _ _ _
    refine retPv_mk rfl rfl rfl ⟨?_, rfl⟩
    have e : fhM lists = some ((lists.getD k []).getD 0 0) := by rw [hf, fhF_drop _ _ _ (by omega), freeH_t (by omega) (by simp_all)]
    rw [e]; rfl
   ·try simp only [zq0, zq1, zq2, zq3, zq4, zq5, zq6, zq7, zq8, zq9, zqa, zqb, zqc, zqd, zqe, zqf] at hc3
    refine vc_skip ?_
    refine hK6 _ ?_
    refine vc_region ?_
    refine vo_binI rfl rfl rfl rfl sd ?_
    refine vo_move_pv rfl rfl ?_
    refine vo_nil ?_
    change againF _ _ _ _ _ _ _ _ _
    refine againF_mk rfl rfl rfl rfl rfl rfl ⟨_, ?_, k + 1, rfl, ?_, ?_, rfl⟩
    ·omega
    ·omega
    ·rw [hf, fhF_drop _ _ _ (by omega), freeH_f (by simp_all)]
  ·try simp only [zq0, zq1, zq2, zq3, zq4, zq5, zq6, zq7, zq8, zq9, zqa, zqb, zqc, zqd, zqe, zqf] at hg2
   refine vo_guard_off rfl rfl rfl rfl rfl ?_
   refine vo_guard_off rfl rfl rfl rfl rfl ?_
   refine vo_guard_off rfl rfl rfl rfl rfl ?_
   refine vo_guard_off rfl rfl rfl rfl rfl ?_
   refine vo_guard_off rfl rfl rfl rfl rfl ?_
   refine vo_guard_off rfl rfl rfl rfl rfl ?_
   refine vo_pick_f rfl rfl ?_
   refine vo_nil ?_
   refine hK8 _ ?_
   refine vc_cond_f rfl ?_
   refine vc_skip ?_
   refine hK6 _ ?_
   refine vc_region ?_
   refine vo_binI rfl rfl rfl rfl sd ?_
   refine vo_move_pv rfl rfl ?_
   refine vo_nil ?_
   change againF _ _ _ _ _ _ _ _ _
   refine againF_mk rfl rfl rfl rfl rfl rfl ⟨_, ?_, k + 1, rfl, ?_, ?_, rfl⟩
   ·omega
   ·omega
   ·rw [hf, fhF_drop _ _ _ (by omega), freeH_f (by simp_all)]
 ·try simp only [zq0, zq1, zq2, zq3, zq4, zq5, zq6, zq7, zq8, zq9, zqa, zqb, zqc, zqd, zqe, zqf] at hc1
  refine vc_exit ?_
  refine hK2 _ ?_
  refine vc_seq fun K10 hK10 => ?_
  refine vc_region ?_
  refine vo_assign_pv rfl rfl ?_
  refine vo_nil ?_
  refine hK10 _ ?_
  refine vc_seq fun K11 hK11 => ?_
  refine vc_region ?_
  refine vo_move_pv rfl rfl ?_
  refine vo_assign_pv rfl rfl ?_
  refine vo_assign_pv rfl rfl ?_
  refine vo_nil ?_
  refine hK11 _ ?_
  refine vc_ret ?_
  change retPv _ _ _ _ _
  refine retPv_mk rfl rfl rfl ⟨?_, rfl⟩
  have e : fhM lists = none := by rw [hf, List.drop_of_length_le (by omega)]; rfl
  rw [e]; rfl


theorem firstHead_sat {nl0 : Option Bool} {lists : List (List Int)} (hlists : lists.length < 1000000000) (hllists : ∀ l ∈ lists, l.length < 1000000000) : SatAt Try.prog 135 [.pv false (.sl nl0 1 (lists.map ints))] [] (fun res rows => res = [i64 ((fhM lists).getD 0), bo (fhM lists).isSome] ∧ rows = []) := by
 refine sat_entry (ts := [2, 3]) Try.func135 rfl rfl (by decide) (Nat.le_of_ble_eq_true rfl) fun C hC => ?_
 rw [Try.ntmps135]
 replace hC : C.nb = 0 := hC
 refine vc_seq fun K1 hK1 => ?_
 refine vc_region ?_
 refine vo_assign_pv rfl rfl ?_
 refine vo_assign_pv rfl rfl ?_
 refine vo_nil ?_
 refine hK1 _ ?_
 refine vc_seq fun K2 hK2 => ?_
 refine vc_seq fun K3 hK3 => ?_
 refine vc_region ?_
 refine vo_assign_pv rfl rfl ?_
 refine vo_nil ?_
 refine hK3 _ ?_
 refine vc_block ?_
 refine vc_stN ?_
 refine vc_loopF [0] [4] [.pv false (.sl nl0 1 (lists.map ints))] _ (fun mz vs => ∃ (k : Nat), mz = lists.length - k ∧ (k ≤ lists.length) ∧ (fhM lists = fhF lists (lists.drop k)) ∧ vs = [i64 k]) (lists.length) rfl rfl (le_len hC rfl) ⟨rfl, rfl, rfl⟩ ⟨0, rfl, Nat.zero_le _, rfl, rfl⟩ ?_
 rintro mz vs - ⟨k, rfl, hk, hf, rfl⟩
 refine vc_stN ?_
 refine vc_seq fun K4 hK4 => ?_
 refine vc_seq fun K5 hK5 => ?_
 refine vc_region ?_
 refine vo_move_pv rfl rfl ?_
 refine vo_move_pv rfl rfl ?_
 refine vo_len_pv rfl rfl Try.underlying23 ?_
 refine vo_binI rfl rfl rfl rfl trivial ?_
 refine vo_nil ?_
 refine hK5 _ ?_
 refine vc_cond rfl (fun hc1 => ?_) (fun hc1 => ?_)
 ·try simp only [zq0, zq1, zq2, zq3, zq4, zq5, zq6, zq7, zq8, zq9, zqa, zqb, zqc, zqd, zqe, zqf] at hc1
  refine vc_skip ?_
  refine hK4 _ ?_
  refine vc_seq fun K6 hK6 => ?_
  refine vc_block ?_
  refine vc_seq fun K7 hK7 => ?_
  refine vc_region ?_
  refine vo_move_pv rfl rfl ?_
  refine vo_move_pv rfl rfl ?_
  refine vo_index_pv (.sl none 1 []) rfl rfl rfl E23.und inf28 sz28 sd sd ?_
  simp only [Int.toNat_natCast, Int.toNat_zero, getD_ints, getD_intss, getD_bools, getD_bytes, PV.cells]
  refine vo_load_adr rfl rfl Try.underlying28 rfl ?_
  refine vo_len_pv rfl rfl Try.underlying28 ?_
  refine vo_binI rfl rfl rfl rfl trivial ?_
  refine vo_move_pv rfl rfl ?_
  refine vo_split 17 rfl (fun hg2 => ?_) (fun hg2 => ?_)
  ·try simp only [zq0, zq1, zq2, zq3, zq4, zq5, zq6, zq7, zq8, zq9, zqa, zqb, zqc, zqd, zqe, zqf] at hg2
   refine vo_guard_on rfl rfl rfl ?_
   refine vo_move_pv rfl rfl ?_
   refine vo_guard_on rfl rfl rfl ?_
   refine vo_move_pv rfl rfl ?_
   refine vo_guard_on rfl rfl rfl ?_
   refine vo_move_pv rfl rfl ?_
   refine vo_guard_on rfl rfl rfl ?_
   refine vo_index_pv (.sl none 1 []) rfl rfl rfl E23.und inf28 sz28 sd sd ?_
   simp only [Int.toNat_natCast, Int.toNat_zero, getD_ints, getD_intss, getD_bools, getD_bytes, PV.cells]
   refine vo_guard_on rfl rfl rfl ?_
   refine vo_load_adr rfl rfl Try.underlying28 rfl ?_
   refine vo_guard_on rfl rfl rfl ?_
   refine vo_index_pv (.int .i64 0) rfl rfl rfl E28.und inf3 sz3 sd sd ?_
   simp only [Int.toNat_natCast, Int.toNat_zero, getD_ints, getD_intss, getD_bools, getD_bytes, PV.cells]
   refine vo_guard_on rfl rfl rfl ?_
   refine vo_load_adr rfl rfl Try.underlying3 rfl ?_
   refine vo_guard_on rfl rfl rfl ?_
   refine vo_call0 Try.func161 rfl rfl rfl rfl (goodHead_sat hlists hllists) ?_
   rintro _ _ ⟨rfl, rfl⟩
   refine ⟨rfl, rfl, .inl rfl, ?_⟩
   refine vo_pick_t rfl rfl ?_
   refine vo_nil ?_
   refine hK7 _ ?_
   refine vc_cond rfl (fun hc3 => ?_) (fun hc3 => ?_)
   ·try simp only [zq0, zq1, zq2, zq3, zq4, zq5, zq6, zq7, zq8, zq9, zqa, zqb, zqc, zqd, zqe, zqf] at hc3
    refine vc_seq fun K8 hK8 => ?_
    refine vc_region ?_
    refine vo_move_pv rfl rfl ?_
    refine vo_move_pv rfl rfl ?_
    refine vo_index_pv (.sl none 1 []) rfl rfl rfl E23.und inf28 sz28 sd sd ?_
    simp only [Int.toNat_natCast, Int.toNat_zero, getD_ints, getD_intss, getD_bools, getD_bytes, PV.cells]
    refine vo_load_adr rfl rfl Try.underlying28 rfl ?_
    refine vo_index_pv (.int .i64 0) rfl rfl rfl E28.und inf3 sz3 sd sd ?_
    simp only [Int.toNat_natCast, Int.toNat_zero, getD_ints, getD_intss, getD_bools, getD_bytes, PV.cells]
    refine vo_load_adr rfl rfl Try.underlying3 rfl ?_
    refine vo_assign_pv rfl rfl ?_
    refine vo_assign_pv rfl rfl ?_
    refine vo_nil ?_
    refine hK8 _ ?_
    refine vc_ret ?_
    change retPv _ _ _ _ _
    refine retPv_mk rfl rfl rfl ⟨?_, rfl⟩
    have e : fhM lists = some ((lists.getD k []).getD 0 0) := by rw [hf, fhF_drop _ _ _ (by omega), freeH_t (by omega) (by simp_all)]
    rw [e]; rfl
   ·try simp only [zq0, zq1, zq2, zq3, zq4, zq5, zq6, zq7, zq8, zq9, zqa, zqb, zqc, zqd, zqe, zqf] at hc3
    refine vc_skip ?_
    refine hK6 _ ?_
    refine vc_region ?_
    refine vo_move_pv rfl rfl ?_
    refine vo_binI rfl rfl rfl rfl sd ?_
    refine vo_assign_pv rfl rfl ?_
    refine vo_nil ?_
    change againF _ _ _ _ _ _ _ _ _
    refine againF_mk rfl rfl rfl rfl rfl rfl ⟨_, ?_, k + 1, rfl, ?_, ?_, rfl⟩
    ·omega
    ·omega
    ·rw [hf, fhF_drop _ _ _ (by omega), freeH_f (by simp_all)]
  ·try simp only [zq0, zq1, zq2, zq3, zq4, zq5, zq6, zq7, zq8, zq9, zqa, zqb, zqc, zqd, zqe, zqf] at hg2
   refine vo_guard_off rfl rfl rfl rfl rfl ?_
   refine vo_guard_off rfl rfl rfl rfl rfl ?_
   refine vo_guard_off rfl rfl rfl rfl rfl ?_
   refine vo_guard_off rfl rfl rfl rfl rfl ?_
   refine vo_guard_off rfl rfl rfl rfl rfl ?_
   refine vo_guard_off rfl rfl rfl rfl rfl ?_
   refine vo_guard_off rfl rfl rfl rfl rfl ?_
   refine vo_guard_off rfl rfl rfl rfl rfl ?_
   refine vo_pick_f rfl rfl ?_
   refine vo_nil ?_
   refine hK7 _ ?_
   refine vc_cond_f rfl ?_
   refine vc_skip ?_
   refine hK6 _ ?_
   refine vc_region ?_
   refine vo_move_pv rfl rfl ?_
   refine vo_binI rfl rfl rfl rfl sd ?_
   refine vo_assign_pv rfl rfl ?_
   refine vo_nil ?_
   change againF _ _ _ _ _ _ _ _ _
   refine againF_mk rfl rfl rfl rfl rfl rfl ⟨_, ?_, k + 1, rfl, ?_, ?_, rfl⟩
   ·omega
   ·omega
   ·rw [hf, fhF_drop _ _ _ (by omega), freeH_f (by simp_all)]
 ·try simp only [zq0, zq1, zq2, zq3, zq4, zq5, zq6, zq7, zq8, zq9, zqa, zqb, zqc, zqd, zqe, zqf] at hc1
  refine vc_exit ?_
  refine hK2 _ ?_
  refine vc_seq fun K9 hK9 => ?_
  refine vc_region ?_
  refine vo_assign_pv rfl rfl ?_
  refine vo_assign_pv rfl rfl ?_
  refine vo_nil ?_
  refine hK9 _ ?_
  refine vc_ret ?_
  change retPv _ _ _ _ _
  refine retPv_mk rfl rfl rfl ⟨?_, rfl⟩
  have e : fhM lists = none := by rw [hf, List.drop_of_length_le (by omega)]; rfl
  rw [e]; rfl

end Go.Vl

namespace Go.Vl
set_option linter.unusedVariables false
set_option linter.unusedSimpArgs false
open Go.Proofs
theorem take_dl (l : List Int) : (l.drop 1).take ((List.map intP l).length - 1) = l.drop 1 := List.take_of_length_le (by simp)

theorem withoutHead_sat {nl0 : Option Bool} {lists : List (List Int)} {x : Int} (hlists : lists.length < 1000000000) (hllists : ∀ l ∈ lists, l.length < 1000000000) : SatAt Try.prog 173 [.pv false (.sl nl0 1 (lists.map ints)), i64 x] [] (fun res rows => res = [.ref 0] ∧ rows = [Row.own 28 1 (some false) false ((lists.map (tk x)).map ints)]) := by
 refine sat_entry_g (ts := [4]) Try.func173 rfl rfl (by decide) (Nat.le_of_ble_eq_true rfl) fun C hC => ?_
 rw [Try.ntmps173]
 replace hC : C.nb = 0 := hC
 refine vc_seq fun K1 hK1 => ?_
 refine vc_region ?_
 refine vo_assign_pv rfl rfl ?_
 refine vo_nil ?_
 refine hK1 _ ?_
 refine vc_seq fun K2 hK2 => ?_
 refine vc_region ?_
 refine vo_move_pv rfl rfl ?_
 refine vo_len_pv rfl rfl Try.underlying23 ?_
 refine vo_make E23 rfl rfl rfl sd sd sd ?_
 refine vo_assign_ref rfl rfl ?_
 refine vo_nil ?_
 refine hK2 _ ?_
 refine vc_seq fun K3 hK3 => ?_
 refine vc_region ?_
 refine vo_move_ref rfl rfl ?_
 refine vo_move_pv rfl rfl ?_
 refine vo_copy rfl rfl rfl rfl Try.underlying23 inf28 sz28 (by simp) ?_
 refine vo_stN ?_
 refine vo_nil ?_
 refine hK3 _ ?_
 refine vc_seq fun K4 hK4 => ?_
 refine vc_seq fun K5 hK5 => ?_
 refine vc_region ?_
 refine vo_move_ref rfl rfl ?_
 refine vo_len_ref rfl rfl rfl Try.underlying23 ?_
 refine vo_move_pv rfl rfl ?_
 refine vo_nil ?_
 refine hK5 _ ?_
 refine vc_block ?_
 refine vc_stN ?_
 refine vc_loop [1, 5, 14, 15, 16] (fun mz vs rows => ∃ (k : Nat), mz = lists.length - k ∧ (k ≤ lists.length) ∧ vs = [i64 x, .ref 0, .ref 0, i64 ((lists.map ints).length : Nat), i64 k] ∧ rows = [Row.own 28 1 (some false) false (((lists.take k).map (tk x) ++ lists.drop k).map ints)]) (lists.length) (le_len hC rfl) ⟨rfl, rfl⟩ ⟨0, rfl, Nat.zero_le _, rfl, rfl⟩ ?_
 rintro mz vs rows - - ⟨k, rfl, hk, rfl, rfl⟩
 have hW : ((lists.take k).map (tk x) ++ lists.drop k).length = lists.length := by rw [List.length_append, List.length_map, List.length_take, List.length_drop]; omega
 have hE : k < lists.length → _ := fun h => map_at_tk (ls := lists) (k := k) h x
 refine vc_seq fun K6 hK6 => ?_
 refine vc_region ?_
 refine vo_binI rfl rfl rfl rfl trivial ?_
 refine vo_nil ?_
 refine hK6 _ ?_
 refine vc_seq fun K7 hK7 => ?_
 refine vc_cond rfl (fun hc1 => ?_) (fun hc1 => ?_)
 ·try simp only [zq0, zq1, zq2, zq3, zq4, zq5, zq6, zq7, zq8, zq9, zqa, zqb, zqc, zqd, zqe, zqf] at hc1
  refine vc_skip ?_
  refine hK7 _ ?_
  refine vc_seq fun K8 hK8 => ?_
  refine vc_block ?_
  refine vc_seq fun K9 hK9 => ?_
  refine vc_region ?_
  refine vo_move_pv rfl rfl ?_
  refine vo_index_ref rfl rfl rfl rfl E23.und inf28 sz28 sd sd ?_
  try simp only [Int.toNat_natCast]
  refine vo_load_own rfl rfl rfl Try.underlying28 rfl sd (getD_intss _ _) rfl ?_
  try simp only [Int.toNat_natCast]
  refine vo_assign_pv rfl rfl ?_
  refine vo_assign_pv rfl rfl ?_
  refine vo_nil ?_
  refine hK9 _ ?_
  refine vc_seq fun K10 hK10 => ?_
  refine vc_region ?_
  refine vo_move_pv rfl rfl ?_
  refine vo_len_pv rfl rfl Try.underlying28 ?_
  refine vo_binI rfl rfl rfl rfl trivial ?_
  refine vo_move_pv rfl rfl ?_
  refine vo_split 24 rfl (fun hg2 => ?_) (fun hg2 => ?_)
  ·try simp only [zq0, zq1, zq2, zq3, zq4, zq5, zq6, zq7, zq8, zq9, zqa, zqb, zqc, zqd, zqe, zqf] at hg2
   refine vo_guard_on rfl rfl rfl ?_
   refine vo_move_pv rfl rfl ?_
   refine vo_guard_on rfl rfl rfl ?_
   refine vo_index_pv (.int .i64 0) rfl rfl rfl E28.und inf3 sz3 sd sd ?_
   simp only [Int.toNat_natCast, Int.toNat_zero, getD_ints, getD_intss, getD_bools, getD_bytes, PV.cells]
   refine vo_guard_on rfl rfl rfl ?_
   refine vo_load_adr rfl rfl Try.underlying3 rfl ?_
   refine vo_guard_on rfl rfl rfl ?_
   refine vo_move_pv rfl rfl ?_
   refine vo_guard_on rfl rfl rfl ?_
   refine vo_binI rfl rfl rfl rfl trivial ?_
   refine vo_pick_t rfl rfl ?_
   refine vo_nil ?_
   refine hK10 _ ?_
   refine vc_cond rfl (fun hc3 => ?_) (fun hc3 => ?_)
   ·try simp only [zq0, zq1, zq2, zq3, zq4, zq5, zq6, zq7, zq8, zq9, zqa, zqb, zqc, zqd, zqe, zqf] at hc3
    refine vc_region ?_
    refine vo_move_ref rfl rfl ?_
    refine vo_move_pv rfl rfl ?_
    refine vo_move_pv rfl rfl ?_
    refine vo_slice_pv rfl rfl rfl rfl E28.und inf3 sz3 sd sd sd ?_
    simp only [Int.toNat_natCast, Int.toNat_zero, List.drop_zero, Nat.sub_zero, ← List.map_drop, ← List.map_take]
    refine vo_index_ref rfl rfl rfl rfl E23.und inf28 sz28 sd sd ?_
    try simp only [Int.toNat_natCast]
    refine vo_store_own rfl rfl rfl inf28 sz28 (by decide) rfl sd ?_
    try simp only [set_ints, set_intss, set_bools, rep_bools, rep_ints, Int.toNat_natCast, Int.toNat_zero]
    refine vo_nil ?_
    refine hK8 _ ?_
    refine vc_region ?_
    refine vo_binI rfl rfl rfl rfl sd ?_
    refine vo_move_pv rfl rfl ?_
    refine vo_nil ?_
    change again _ _ _ _ _ _
    refine again_mk rfl rfl rfl rfl ⟨_, ?_, k + 1, rfl, ?_, rfl, (congrArg (fun l => [Row.own 28 1 (some false) false (List.map ints l)]) (show _ = (lists.take (k+1)).map (tk x) ++ lists.drop (k+1) by rw [← map_set_tk (by omega), tk_t (by simp_all) (by simp_all)]; simp_all [List.take_of_length_le]))⟩
    ·omega
    ·omega
   ·try simp only [zq0, zq1, zq2, zq3, zq4, zq5, zq6, zq7, zq8, zq9, zqa, zqb, zqc, zqd, zqe, zqf] at hc3
    refine vc_skip ?_
    refine hK8 _ ?_
    refine vc_region ?_
    refine vo_binI rfl rfl rfl rfl sd ?_
    refine vo_move_pv rfl rfl ?_
    refine vo_nil ?_
    change again _ _ _ _ _ _
    refine again_mk rfl rfl rfl rfl ⟨_, ?_, k + 1, rfl, ?_, rfl, (congrArg (fun l => [Row.own 28 1 (some false) false (List.map ints l)]) (show (lists.take k).map (tk x) ++ lists.drop k = (lists.take (k+1)).map (tk x) ++ lists.drop (k+1) from map_keep_tk (by omega) x (tk_f (by simp_all))))⟩
    ·omega
    ·omega
  ·try simp only [zq0, zq1, zq2, zq3, zq4, zq5, zq6, zq7, zq8, zq9, zqa, zqb, zqc, zqd, zqe, zqf] at hg2
   refine vo_guard_off rfl rfl rfl rfl rfl ?_
   refine vo_guard_off rfl rfl rfl rfl rfl ?_
   refine vo_guard_off rfl rfl rfl rfl rfl ?_
   refine vo_guard_off rfl rfl rfl rfl rfl ?_
   refine vo_guard_off rfl rfl rfl rfl rfl ?_
   refine vo_pick_f rfl rfl ?_
   refine vo_nil ?_
   refine hK10 _ ?_
   refine vc_cond_f rfl ?_
   refine vc_skip ?_
   refine hK8 _ ?_
   refine vc_region ?_
   refine vo_binI rfl rfl rfl rfl sd ?_
   refine vo_move_pv rfl rfl ?_
   refine vo_nil ?_
   change again _ _ _ _ _ _
   refine again_mk rfl rfl rfl rfl ⟨_, ?_, k + 1, rfl, ?_, rfl, (congrArg (fun l => [Row.own 28 1 (some false) false (List.map ints l)]) (show (lists.take k).map (tk x) ++ lists.drop k = (lists.take (k+1)).map (tk x) ++ lists.drop (k+1) from map_keep_tk (by omega) x (tk_f (by simp_all))))⟩
   ·omega
   ·omega
 ·try simp only [zq0, zq1, zq2, zq3, zq4, zq5, zq6, zq7, zq8, zq9, zqa, zqb, zqc, zqd, zqe, zqf] at hc1
  refine vc_exit ?_
  refine hK4 _ ?_
  refine vc_seq fun K11 hK11 => ?_
  refine vc_region ?_
  refine vo_move_ref rfl rfl ?_
  refine vo_assign_ref rfl rfl ?_
  refine vo_nil ?_
  refine hK11 _ ?_
  refine vc_ret ?_
  change retG _ _ _ _ _
  refine retG_one 0 hC rfl rfl rfl rfl rfl ?_
  exact ⟨rfl, (congrArg (fun l => [Row.own 28 1 (some false) false (List.map ints l)]) (show (lists.take k).map (tk x) ++ lists.drop k = lists.map (tk x) by rw [take_all (by omega), List.drop_of_length_le (by omega), List.append_nil]))⟩


theorem take_sat {nl0 : Option Bool} {lists : List (List Int)} {x : Int} (hlists : lists.length < 1000000000) (hllists : ∀ l ∈ lists, l.length < 1000000000) : SatAt Try.prog 136 [.pv false (.sl nl0 1 (lists.map ints)), i64 x] [] (fun res rows => res = [.ref 0] ∧ rows = [Row.own 28 1 (some false) false ((lists.map (tk x)).map ints)]) := by
 refine sat_entry_g (ts := [4]) Try.func136 rfl rfl (by decide) (Nat.le_of_ble_eq_true rfl) fun C hC => ?_
 rw [Try.ntmps136]
 replace hC : C.nb = 0 := hC
 refine vc_seq fun K1 hK1 => ?_
 refine vc_region ?_
 refine vo_assign_pv rfl rfl ?_
 refine vo_nil ?_
 refine hK1 _ ?_
 refine vc_seq fun K2 hK2 => ?_
 refine vc_region ?_
 refine vo_buildSlice E23 rfl rfl rfl rfl rfl ?_
 refine vo_assign_ref rfl rfl ?_
 refine vo_nil ?_
 refine hK2 _ ?_
 refine vc_seq fun K3 hK3 => ?_
 refine vc_seq fun K4 hK4 => ?_
 refine vc_region ?_
 refine vo_assign_pv rfl rfl ?_
 refine vo_nil ?_
 refine hK4 _ ?_
 refine vc_block ?_
 refine vc_flagrow 0 rfl ?_
 refine vc_stN ?_
 refine vc_loop [0, 1, 5, 6] (fun mz vs rows => ∃ (k : Nat), mz = lists.length - k ∧ (k ≤ lists.length) ∧ vs = [.pv false (.sl nl0 1 (lists.map ints)), i64 x, .ref 0, i64 k] ∧ rows = [Row.own 28 1 (some false) false (((lists.take k).map (tk x)).map ints)]) (lists.length) (le_len hC rfl) ⟨rfl, rfl⟩ ⟨0, rfl, Nat.zero_le _, rfl, rfl⟩ ?_
 rintro mz vs rows - - ⟨k, rfl, hk, rfl, rfl⟩
 refine vc_seq fun K5 hK5 => ?_
 refine vc_seq fun K6 hK6 => ?_
 refine vc_region ?_
 refine vo_move_pv rfl rfl ?_
 refine vo_move_pv rfl rfl ?_
 refine vo_len_pv rfl rfl Try.underlying23 ?_
 refine vo_binI rfl rfl rfl rfl trivial ?_
 refine vo_nil ?_
 refine hK6 _ ?_
 refine vc_cond rfl (fun hc1 => ?_) (fun hc1 => ?_)
 ·try simp only [zq0, zq1, zq2, zq3, zq4, zq5, zq6, zq7, zq8, zq9, zqa, zqb, zqc, zqd, zqe, zqf] at hc1
  refine vc_skip ?_
  refine hK5 _ ?_
  refine vc_seq fun K7 hK7 => ?_
  refine vc_block ?_
  refine vc_seq fun K8 hK8 => ?_
  refine vc_region ?_
  refine vo_move_pv rfl rfl ?_
  refine vo_move_pv rfl rfl ?_
  refine vo_index_pv (.sl none 1 []) rfl rfl rfl E23.und inf28 sz28 sd sd ?_
  simp only [Int.toNat_natCast, Int.toNat_zero, getD_ints, getD_intss, getD_bools, getD_bytes, PV.cells]
  refine vo_load_adr rfl rfl Try.underlying28 rfl ?_
  refine vo_assign_pv rfl rfl ?_
  refine vo_nil ?_
  refine hK8 _ ?_
  refine vc_seq fun K9 hK9 => ?_
  refine vc_seq fun K10 hK10 => ?_
  refine vc_region ?_
  refine vo_move_pv rfl rfl ?_
  refine vo_len_pv rfl rfl Try.underlying28 ?_
  refine vo_binI rfl rfl rfl rfl trivial ?_
  refine vo_move_pv rfl rfl ?_
  refine vo_split 22 rfl (fun hg2 => ?_) (fun hg2 => ?_)
  ·try simp only [zq0, zq1, zq2, zq3, zq4, zq5, zq6, zq7, zq8, zq9, zqa, zqb, zqc, zqd, zqe, zqf] at hg2
   refine vo_guard_on rfl rfl rfl ?_
   refine vo_move_pv rfl rfl ?_
   refine vo_guard_on rfl rfl rfl ?_
   refine vo_index_pv (.int .i64 0) rfl rfl rfl E28.und inf3 sz3 sd sd ?_
   simp only [Int.toNat_natCast, Int.toNat_zero, getD_ints, getD_intss, getD_bools, getD_bytes, PV.cells]
   refine vo_guard_on rfl rfl rfl ?_
   refine vo_load_adr rfl rfl Try.underlying3 rfl ?_
   refine vo_guard_on rfl rfl rfl ?_
   refine vo_move_pv rfl rfl ?_
   refine vo_guard_on rfl rfl rfl ?_
   refine vo_binI rfl rfl rfl rfl trivial ?_
   refine vo_pick_t rfl rfl ?_
   refine vo_nil ?_
   refine hK10 _ ?_
   refine vc_cond rfl (fun hc3 => ?_) (fun hc3 => ?_)
   ·try simp only [zq0, zq1, zq2, zq3, zq4, zq5, zq6, zq7, zq8, zq9, zqa, zqb, zqc, zqd, zqe, zqf] at hc3
    refine vc_region ?_
    refine vo_move_pv rfl rfl ?_
    refine vo_slice_pv rfl rfl rfl rfl E28.und inf3 sz3 sd sd sd ?_
    simp only [Int.toNat_natCast, Int.toNat_zero, List.drop_zero, Nat.sub_zero, ← List.map_drop, ← List.map_take]
    refine vo_assign_pv rfl rfl ?_
    refine vo_nil ?_
    refine hK9 _ ?_
    refine vc_region ?_
    refine vo_move_ref rfl rfl ?_
    refine vo_move_pv rfl rfl ?_
    refine vo_weaken 32 rfl ?_
    refine vo_buildSlice E23 rfl rfl rfl rfl rfl ?_
    refine vo_append E23 rfl (by omega) rfl rfl rfl sd sd ?_
    refine vo_stN ?_
    try simp only [app_ints, app_intss, app_bools]
    refine vo_assign_ref rfl rfl ?_
    refine vo_nil ?_
    refine hK7 _ ?_
    refine vc_region ?_
    refine vo_move_pv rfl rfl ?_
    refine vo_binI rfl rfl rfl rfl sd ?_
    refine vo_assign_pv rfl rfl ?_
    refine vo_nil ?_
    change again _ _ _ _ _ _
    refine again_mk rfl rfl rfl rfl ⟨_, ?_, k + 1, rfl, ?_, rfl, (congrArg (fun l => [Row.own 28 1 (some false) false (List.map ints l)]) (show (lists.take k).map (tk x) ++ [((lists.getD k []).drop 1).take ((List.map intP (lists.getD k [])).length - 1)] = (lists.take (k+1)).map (tk x) by rw [take_dl, ← map_snoc_tk (by omega), tk_t (by simp_all) (by simp_all)]))⟩
    ·omega
    ·omega
   ·try simp only [zq0, zq1, zq2, zq3, zq4, zq5, zq6, zq7, zq8, zq9, zqa, zqb, zqc, zqd, zqe, zqf] at hc3
    refine vc_skip ?_
    refine hK9 _ ?_
    refine vc_region ?_
    refine vo_move_ref rfl rfl ?_
    refine vo_move_pv rfl rfl ?_
    refine vo_weaken 32 rfl ?_
    refine vo_buildSlice E23 rfl rfl rfl rfl rfl ?_
    refine vo_append E23 rfl (by omega) rfl rfl rfl sd sd ?_
    refine vo_stN ?_
    try simp only [app_ints, app_intss, app_bools]
    refine vo_assign_ref rfl rfl ?_
    refine vo_nil ?_
    refine hK7 _ ?_
    refine vc_region ?_
    refine vo_move_pv rfl rfl ?_
    refine vo_binI rfl rfl rfl rfl sd ?_
    refine vo_assign_pv rfl rfl ?_
    refine vo_nil ?_
    change again _ _ _ _ _ _
    refine again_mk rfl rfl rfl rfl ⟨_, ?_, k + 1, rfl, ?_, rfl, (congrArg (fun l => [Row.own 28 1 (some false) false (List.map ints l)]) (show (lists.take k).map (tk x) ++ [lists.getD k []] = (lists.take (k+1)).map (tk x) by rw [← map_snoc_tk (by omega), tk_f (by simp_all)]))⟩
    ·omega
    ·omega
  ·try simp only [zq0, zq1, zq2, zq3, zq4, zq5, zq6, zq7, zq8, zq9, zqa, zqb, zqc, zqd, zqe, zqf] at hg2
   refine vo_guard_off rfl rfl rfl rfl rfl ?_
   refine vo_guard_off rfl rfl rfl rfl rfl ?_
   refine vo_guard_off rfl rfl rfl rfl rfl ?_
   refine vo_guard_off rfl rfl rfl rfl rfl ?_
   refine vo_guard_off rfl rfl rfl rfl rfl ?_
   refine vo_pick_f rfl rfl ?_
   refine vo_nil ?_
   refine hK10 _ ?_
   refine vc_cond_f rfl ?_
   refine vc_skip ?_
   refine hK9 _ ?_
   refine vc_region ?_
   refine vo_move_ref rfl rfl ?_
   refine vo_move_pv rfl rfl ?_
   refine vo_weaken 32 rfl ?_
   refine vo_buildSlice E23 rfl rfl rfl rfl rfl ?_
   refine vo_append E23 rfl (by omega) rfl rfl rfl sd sd ?_
   refine vo_stN ?_
   try simp only [app_ints, app_intss, app_bools]
   refine vo_assign_ref rfl rfl ?_
   refine vo_nil ?_
   refine hK7 _ ?_
   refine vc_region ?_
   refine vo_move_pv rfl rfl ?_
   refine vo_binI rfl rfl rfl rfl sd ?_
   refine vo_assign_pv rfl rfl ?_
   refine vo_nil ?_
   change again _ _ _ _ _ _
   refine again_mk rfl rfl rfl rfl ⟨_, ?_, k + 1, rfl, ?_, rfl, (congrArg (fun l => [Row.own 28 1 (some false) false (List.map ints l)]) (show (lists.take k).map (tk x) ++ [lists.getD k []] = (lists.take (k+1)).map (tk x) by rw [← map_snoc_tk (by omega), tk_f (by simp_all)]))⟩
   ·omega
   ·omega
 ·try simp only [zq0, zq1, zq2, zq3, zq4, zq5, zq6, zq7, zq8, zq9, zqa, zqb, zqc, zqd, zqe, zqf] at hc1
  refine vc_exit ?_
  refine hK3 _ ?_
  refine vc_seq fun K11 hK11 => ?_
  refine vc_region ?_
  refine vo_move_ref rfl rfl ?_
  refine vo_assign_ref rfl rfl ?_
  refine vo_nil ?_
  refine hK11 _ ?_
  refine vc_ret ?_
  change retG _ _ _ _ _
  refine retG_one 0 hC rfl rfl rfl rfl rfl ?_
  exact ⟨rfl, (congrArg (fun l => [Row.own 28 1 (some false) false (List.map ints l)]) (show (lists.take k).map (tk x) = lists.map (tk x) by rw [take_all (by omega)]))⟩

end Go.Vl

namespace Go.Vl
set_option linter.unusedVariables false
set_option linter.unusedSimpArgs false
open Go.Proofs
theorem mg_step {ls : List (List Int)} {n : Nat} (h : (fhM ls).isSome = true) (hn : tot ls ≤ n) : tot (ls.map (tk ((fhM ls).getD 0))) < tot ls ∧ (mergeF n ls).1 = (fhM ls).getD 0 :: (mergeF (n-1) (ls.map (tk ((fhM ls).getD 0)))).1 ∧ (mergeF n ls).2 = (mergeF (n-1) (ls.map (tk ((fhM ls).getD 0)))).2 := by
  obtain ⟨x, hx⟩ := Option.isSome_iff_exists.1 h
  have h1 := fhM_tot hx
  rw [mergeF_some hx hn, hx]
  exact ⟨h1, rfl, rfl⟩
theorem mg_len {ls : List (List Int)} {x : Int} {N : Nat} (h : ∀ l ∈ ls, l.length < N) : ∀ l ∈ ls.map (tk x), l.length < N := by
  intro l hl
  obtain ⟨l', h1, rfl⟩ := List.mem_map.1 hl
  exact Nat.lt_of_le_of_lt (tk_len x l') (h _ h1)
theorem mg_none {ls : List (List Int)} {n : Nat} (h : ¬ (fhM ls).isSome = true) : mergeF n ls = ([], ls) := mergeF_none (by simpa using h)

theorem mergeAll_sat {nl0 : Option Bool} {lists : List (List Int)} (hlists : lists.length < 1000000000) (hllists : ∀ l ∈ lists, l.length < 1000000000) (ht : tot lists < 1000000000) : SatAt Try.prog 159 [.pv false (.sl nl0 1 (lists.map ints))] [] (fun res rows => res = [.ref 0, .pv false (.sl none 1 ((mergeM lists).2.map ints))] ∧ rows = [Row.own 3 1 none true (((mergeM lists).1).map intP)]) := by
 refine sat_entry_g (ts := [2, 3]) Try.func159 rfl rfl (by decide) (Nat.le_of_ble_eq_true rfl) fun C hC => ?_
 rw [Try.ntmps159]
 replace hC : C.nb = 0 := hC
 refine vc_seq fun K1 hK1 => ?_
 refine vc_region ?_
 refine vo_assign_pv rfl rfl ?_
 refine vo_assign_pv rfl rfl ?_
 refine vo_nil ?_
 refine hK1 _ ?_
 refine vc_seq fun K2 hK2 => ?_
 refine vc_region ?_
 refine vo_assign_pv rfl rfl ?_
 refine vo_nil ?_
 refine hK2 _ ?_
 refine vc_seq fun K3 hK3 => ?_
 refine vc_seq fun K4 hK4 => ?_
 refine vc_region ?_
 refine vo_move_pv rfl rfl ?_
 refine vo_call0 Try.func172 rfl rfl rfl rfl (firstFree_sat hlists hllists) ?_
 rintro _ _ ⟨rfl, rfl⟩
 refine ⟨rfl, rfl, .inl rfl, ?_⟩
 refine vo_move rfl ?_
 refine vo_extract rfl rfl rfl ?_
 refine vo_extract rfl rfl rfl ?_
 refine vo_assign_pv rfl rfl ?_
 refine vo_assign_pv rfl rfl ?_
 refine vo_nil ?_
 refine hK4 _ ?_
 refine vc_block ?_
 refine vc_own_nil 4 E28 rfl ?_
 refine vc_weaken 0 rfl ?_
 refine vc_stN ?_
 refine vc_loop [0, 4, 5, 6] (fun mz vs rows => ∃ (n : Nat) (ls : List (List Int)) (ys : List Int), mz = n ∧ (tot ls ≤ n) ∧ (ls.length = lists.length) ∧ (∀ l ∈ ls, l.length < 1000000000) ∧ (ys.length + tot ls ≤ tot lists) ∧ (ys ++ (mergeF n ls).1 = (mergeM lists).1) ∧ ((mergeF n ls).2 = (mergeM lists).2) ∧ vs = [.pv false (.sl none 1 (ls.map ints)), .ref 0, i64 ((fhM ls).getD 0), bo (fhM ls).isSome] ∧ rows = [Row.own 3 1 none true ((ys).map intP)]) (tot lists) (le_len hC rfl) ⟨rfl, rfl⟩ ⟨tot lists, lists, [], rfl, Nat.le_refl _, rfl, hllists, (by simp), rfl, rfl, rfl, rfl⟩ ?_
 rintro mz vs rows - - ⟨n, ls, ys, rfl, hn, hll, hle, hys, hm1, hm2, rfl, rfl⟩
 refine vc_seq fun K5 hK5 => ?_
 refine vc_seq fun K6 hK6 => ?_
 refine vc_region ?_
 refine vo_move_pv rfl rfl ?_
 refine vo_nil ?_
 refine hK6 _ ?_
 refine vc_cond rfl (fun hc1 => ?_) (fun hc1 => ?_)
 ·try simp only [zq0, zq1, zq2, zq3, zq4, zq5, zq6, zq7, zq8, zq9, zqa, zqb, zqc, zqd, zqe, zqf] at hc1
  refine vc_skip ?_
  refine hK5 _ ?_
  refine vc_seq fun K7 hK7 => ?_
  refine vc_block ?_
  refine vc_seq fun K8 hK8 => ?_
  refine vc_region ?_
  refine vo_move_ref rfl rfl ?_
  refine vo_move_pv rfl rfl ?_
  refine vo_buildSlice E28 rfl rfl rfl rfl rfl ?_
  refine vo_append E28 rfl (by omega) rfl rfl rfl sd sd ?_
  refine vo_stN ?_
  try simp only [app_ints, app_intss, app_bools]
  refine vo_assign_ref rfl rfl ?_
  refine vo_nil ?_
  refine hK8 _ ?_
  refine vc_region ?_
  refine vo_move_pv rfl rfl ?_
  refine vo_move_pv rfl rfl ?_
  refine vo_call [] Try.func173 rfl rfl rfl rfl rfl rfl rfl (withoutHead_sat (by omega) hle) ?_
  rintro _ _ ⟨rfl, rfl⟩
  refine ⟨Nat.le_of_ble_eq_true rfl, ⟨rfl, rfl, rfl, rfl⟩, .inl rfl, ?_⟩
  refine vo_stN ?_
  refine vo_expose 2 (by omega) rfl ?_
  refine vo_stN ?_
  refine vo_weaken 24 rfl ?_
  refine vo_flag 24 rfl ?_
  refine vo_stN ?_
  refine vo_assign_pv rfl rfl ?_
  refine vo_nil ?_
  refine hK7 _ ?_
  refine vc_region ?_
  refine vo_move_pv rfl rfl ?_
  refine vo_call0 Try.func172 rfl rfl rfl rfl (firstFree_sat (by simp; omega) (mg_len hle)) ?_
  rintro _ _ ⟨rfl, rfl⟩
  refine ⟨rfl, rfl, .inl rfl, ?_⟩
  refine vo_move rfl ?_
  refine vo_extract rfl rfl rfl ?_
  refine vo_extract rfl rfl rfl ?_
  refine vo_assign_pv rfl rfl ?_
  refine vo_assign_pv rfl rfl ?_
  refine vo_nil ?_
  change again _ _ _ _ _ _
  refine again_mk rfl rfl rfl rfl ⟨_, ?_, mz - 1, ls.map (tk ((fhM ls).getD 0)), ys ++ [((fhM ls).getD 0)], rfl, ?_, ?_, ?_, ?_, ?_, ?_, rfl, rfl⟩
  ·have := (mg_step hc1 hn).1; omega
  ·have := (mg_step hc1 hn).1; omega
  ·rw [List.length_map]; exact hll
  ·exact mg_len hle
  ·have := (mg_step hc1 hn).1; rw [List.length_append, List.length_singleton]; omega
  ·rw [← hm1, (mg_step hc1 hn).2.1, List.append_assoc]; rfl
  ·rw [← hm2, (mg_step hc1 hn).2.2]
 ·try simp only [zq0, zq1, zq2, zq3, zq4, zq5, zq6, zq7, zq8, zq9, zqa, zqb, zqc, zqd, zqe, zqf] at hc1
  refine vc_exit ?_
  refine hK3 _ ?_
  refine vc_seq fun K9 hK9 => ?_
  refine vc_region ?_
  refine vo_move_ref rfl rfl ?_
  refine vo_move_pv rfl rfl ?_
  refine vo_assign_ref rfl rfl ?_
  refine vo_assign_pv rfl rfl ?_
  refine vo_nil ?_
  refine hK9 _ ?_
  refine vc_ret ?_
  change retG _ _ _ _ _
  refine retG_one 0 hC rfl rfl rfl rfl rfl ?_
  have e := mg_none (n := mz) (Bool.eq_false_iff.1 hc1)
  rw [e] at hm1 hm2
  rw [← hm1, ← hm2, List.append_nil]; exact ⟨rfl, rfl⟩


theorem merge_sat {nl0 : Option Bool} {lists : List (List Int)} (hlists : lists.length < 1000000000) (hllists : ∀ l ∈ lists, l.length < 1000000000) (ht : tot lists < 1000000000) : SatAt Try.prog 109 [.pv false (.sl nl0 1 (lists.map ints))] [] (fun res rows => res = [.ref 0, .pv false (.sl none 1 ((mergeM lists).2.map ints))] ∧ rows = [Row.own 3 1 (some false) true (((mergeM lists).1).map intP)]) := by
 refine sat_entry_g (ts := [2, 3]) Try.func109 rfl rfl (by decide) (Nat.le_of_ble_eq_true rfl) fun C hC => ?_
 rw [Try.ntmps109]
 replace hC : C.nb = 0 := hC
 refine vc_seq fun K1 hK1 => ?_
 refine vc_region ?_
 refine vo_assign_pv rfl rfl ?_
 refine vo_assign_pv rfl rfl ?_
 refine vo_nil ?_
 refine hK1 _ ?_
 refine vc_seq fun K2 hK2 => ?_
 refine vc_region ?_
 refine vo_buildSlice E28 rfl rfl rfl rfl rfl ?_
 refine vo_assign_ref rfl rfl ?_
 refine vo_nil ?_
 refine hK2 _ ?_
 refine vc_block ?_
 refine vc_weaken 0 rfl ?_
 refine vc_stN ?_
 refine vc_loop [0, 4] (fun mz vs rows => ∃ (n : Nat) (ls : List (List Int)) (ys : List Int), mz = n ∧ (tot ls ≤ n) ∧ (ls.length = lists.length) ∧ (∀ l ∈ ls, l.length < 1000000000) ∧ (ys.length + tot ls ≤ tot lists) ∧ (ys ++ (mergeF n ls).1 = (mergeM lists).1) ∧ ((mergeF n ls).2 = (mergeM lists).2) ∧ vs = [.pv false (.sl none 1 (ls.map ints)), .ref 0] ∧ rows = [Row.own 3 1 (some false) true ((ys).map intP)]) (tot lists) (le_len hC rfl) ⟨rfl, rfl⟩ ⟨tot lists, lists, [], rfl, Nat.le_refl _, rfl, hllists, (by simp), rfl, rfl, rfl, rfl⟩ ?_
 rintro mz vs rows - - ⟨n, ls, ys, rfl, hn, hll, hle, hys, hm1, hm2, rfl, rfl⟩
 refine vc_block ?_
 refine vc_seq fun K3 hK3 => ?_
 refine vc_region ?_
 refine vo_move_pv rfl rfl ?_
 refine vo_call0 Try.func135 rfl rfl rfl rfl (firstHead_sat (by omega) hle) ?_
 rintro _ _ ⟨rfl, rfl⟩
 refine ⟨rfl, rfl, .inl rfl, ?_⟩
 refine vo_move rfl ?_
 refine vo_extract rfl rfl rfl ?_
 refine vo_extract rfl rfl rfl ?_
 refine vo_assign_pv rfl rfl ?_
 refine vo_assign_pv rfl rfl ?_
 refine vo_nil ?_
 refine hK3 _ ?_
 refine vc_seq fun K4 hK4 => ?_
 refine vc_seq fun K5 hK5 => ?_
 refine vc_region ?_
 refine vo_move_pv rfl rfl ?_
 refine vo_not rfl rfl ?_
 refine vo_nil ?_
 refine hK5 _ ?_
 refine vc_cond rfl (fun hc1 => ?_) (fun hc1 => ?_)
 ·try simp only [zq0, zq1, zq2, zq3, zq4, zq5, zq6, zq7, zq8, zq9, zqa, zqb, zqc, zqd, zqe, zqf] at hc1
  refine vc_seq fun K6 hK6 => ?_
  refine vc_region ?_
  refine vo_move_ref rfl rfl ?_
  refine vo_move_pv rfl rfl ?_
  refine vo_assign_ref rfl rfl ?_
  refine vo_assign_pv rfl rfl ?_
  refine vo_nil ?_
  refine hK6 _ ?_
  refine vc_ret ?_
  change retG _ _ _ _ _
  refine retG_one 0 hC rfl rfl rfl rfl rfl ?_
  have e := mg_none (n := mz) (Bool.eq_false_iff.1 hc1)
  rw [e] at hm1 hm2
  rw [← hm1, ← hm2, List.append_nil]; exact ⟨rfl, rfl⟩
 ·try simp only [zq0, zq1, zq2, zq3, zq4, zq5, zq6, zq7, zq8, zq9, zqa, zqb, zqc, zqd, zqe, zqf] at hc1
  refine vc_skip ?_
  refine hK4 _ ?_
  refine vc_seq fun K7 hK7 => ?_
  refine vc_region ?_
  refine vo_move_ref rfl rfl ?_
  refine vo_move_pv rfl rfl ?_
  refine vo_buildSlice E28 rfl rfl rfl rfl rfl ?_
  refine vo_append E28 rfl (by omega) rfl rfl rfl sd sd ?_
  refine vo_stN ?_
  try simp only [app_ints, app_intss, app_bools]
  refine vo_assign_ref rfl rfl ?_
  refine vo_nil ?_
  refine hK7 _ ?_
  refine vc_region ?_
  refine vo_move_pv rfl rfl ?_
  refine vo_move_pv rfl rfl ?_
  refine vo_call [] Try.func136 rfl rfl rfl rfl rfl rfl rfl (take_sat (by omega) hle) ?_
  rintro _ _ ⟨rfl, rfl⟩
  refine ⟨Nat.le_of_ble_eq_true rfl, ⟨rfl, rfl, rfl, rfl⟩, .inl rfl, ?_⟩
  refine vo_stN ?_
  refine vo_expose 2 (by omega) rfl ?_
  refine vo_stN ?_
  refine vo_weaken 23 rfl ?_
  refine vo_flag 23 rfl ?_
  refine vo_stN ?_
  refine vo_assign_pv rfl rfl ?_
  refine vo_nil ?_
  change again _ _ _ _ _ _
  refine again_mk rfl rfl rfl rfl ⟨_, ?_, mz - 1, ls.map (tk ((fhM ls).getD 0)), ys ++ [((fhM ls).getD 0)], rfl, ?_, ?_, ?_, ?_, ?_, ?_, rfl, rfl⟩
  ·have := (mg_step hc1 hn).1; omega
  ·have := (mg_step hc1 hn).1; omega
  ·rw [List.length_map]; exact hll
  ·exact mg_len hle
  ·have := (mg_step hc1 hn).1; rw [List.length_append, List.length_singleton]; omega
  ·rw [← hm1, (mg_step hc1 hn).2.1, List.append_assoc]; rfl
  ·rw [← hm2, (mg_step hc1 hn).2.2]

end Go.Vl

namespace Go.Vl
set_option linter.unusedVariables false
set_option linter.unusedSimpArgs false
open Go.Proofs
theorem tot_le {K : Nat} : ∀ {ls : List (List Int)}, (∀ l ∈ ls, l.length ≤ K) → tot ls ≤ ls.length * K
  | [], _ => Nat.zero_le _
  | a :: r, h => by
    have h1 := tot_le (ls := r) (fun l hl => h l (List.mem_cons_of_mem _ hl))
    have h2 := h a List.mem_cons_self
    simp only [tot, List.map_cons, List.sum_cons, List.length_cons, Nat.add_mul] at h1 ⊢
    omega
theorem OKLs.tot {ls : List (List Int)} (h : OKLs ls) : tot ls < 1000000000 := by
  have h1 := tot_le (K := 12) (ls := ls) (fun l hl => by have := (h.1 l hl).1; omega)
  have := h.2
  omega
theorem mgL_len (ls : List (List Int)) : (mergeM ls).2.length = ls.length := mergeF_len _ _
theorem mgL_mem {N : Nat} : ∀ (n : Nat) (ls : List (List Int)), (∀ l ∈ ls, l.length < N) → ∀ l ∈ (mergeF n ls).2, l.length < N
  | 0, ls, h => h
  | n+1, ls, h => by
    unfold mergeF
    split
    · exact h
    · exact mgL_mem n _ (mg_len h)
def mgOK (ls : List (List Int)) : Prop := OKLs ls ∧ hds (mergeM ls).2 = []
instance {ls : List (List Int)} : Decidable (mgOK ls) := by unfold mgOK; infer_instance
def mgR (ls : List (List Int)) : List Int := if mgOK ls then (mergeM ls).1 else []
def skR (ls : List (List Int)) : List Int := if OKLs ls then onceF [] (hds (mergeM ls).2) else []
theorem hds_take0 {ls : List (List Int)} {k : Nat} (h : k < ls.length) (h0 : hds (ls.take k) = []) (h1 : ¬ 0 < (ls.getD k []).length) : hds (ls.take (k+1)) = [] := by rw [hds_snoc h, h0, hd1_f h1]; rfl
theorem hds_ne {ls : List (List Int)} {k : Nat} (h : k < ls.length) (h1 : 0 < (ls.getD k []).length) : hds ls ≠ [] := by
  intro e
  have := hds_nil.1 e _ (getD_mem h [])
  rw [this] at h1; simp at h1
theorem hdsL (ls : List (List Int)) (k : Nat) : (hds (ls.take k)).length ≤ k := Nat.le_trans (hds_len _) (by rw [List.length_take]; omega)

theorem canMerge_sat {nl0 : Option Bool} {lists : List (List Int)} (hlists : lists.length < 1000000000) (hllists : ∀ l ∈ lists, l.length < 1000000000)  : SatAt Try.prog 158 [.pv false (.sl nl0 1 (lists.map ints))] [] (fun res rows => res = [bo (decide (OKLs lists))] ∧ rows = []) := by
 refine sat_entry (ts := [2]) Try.func158 rfl rfl (by decide) (Nat.le_of_ble_eq_true rfl) fun C hC => ?_
 rw [Try.ntmps158]
 replace hC : C.nb = 0 := hC
 refine vc_seq fun K1 hK1 => ?_
 refine vc_region ?_
 refine vo_assign_pv rfl rfl ?_
 refine vo_nil ?_
 refine hK1 _ ?_
 refine vc_seq fun K2 hK2 => ?_
 refine vc_seq fun K3 hK3 => ?_
 refine vc_region ?_
 refine vo_move_pv rfl rfl ?_
 refine vo_len_pv rfl rfl Try.underlying23 ?_
 refine vo_binI rfl rfl rfl rfl trivial ?_
 refine vo_nil ?_
 refine hK3 _ ?_
 refine vc_cond rfl (fun hc1 => ?_) (fun hc1 => ?_)
 ·try simp only [zq0, zq1, zq2, zq3, zq4, zq5, zq6, zq7, zq8, zq9, zqa, zqb, zqc, zqd, zqe, zqf] at hc1
  refine vc_seq fun K4 hK4 => ?_
  refine vc_region ?_
  refine vo_assign_pv rfl rfl ?_
  refine vo_nil ?_
  refine hK4 _ ?_
  refine vc_ret ?_
  change retPv _ _ _ _ _
  refine retPv_mk rfl rfl rfl ⟨?_, rfl⟩
  refine (congrArg (fun b => [bo b]) (?_ : _ = _) : [bo _] = [bo _])
  exact bF fun h => by have := h.2; omega
 ·try simp only [zq0, zq1, zq2, zq3, zq4, zq5, zq6, zq7, zq8, zq9, zqa, zqb, zqc, zqd, zqe, zqf] at hc1
  refine vc_skip ?_
  refine hK2 _ ?_
  refine vc_seq fun K5 hK5 => ?_
  refine vc_seq fun K6 hK6 => ?_
  refine vc_region ?_
  refine vo_move_pv rfl rfl ?_
  refine vo_len_pv rfl rfl Try.underlying23 ?_
  refine vo_move_pv rfl rfl ?_
  refine vo_nil ?_
  refine hK6 _ ?_
  refine vc_block ?_
  refine vc_stN ?_
  refine vc_loopF [8, 9] [10] [.pv false (.sl nl0 1 (lists.map ints)), i64 (lists.map ints).length] _ (fun mz vs => ∃ (k : Nat), mz = lists.length - k ∧ (k ≤ lists.length) ∧ (∀ l ∈ lists.take k, OKL l 12) ∧ vs = [i64 k]) (lists.length) rfl rfl (le_len hC rfl) ⟨rfl, rfl, rfl⟩ ⟨0, rfl, Nat.zero_le _, (by simp), rfl⟩ ?_
  rintro mz vs - ⟨k, rfl, hk, hf, rfl⟩
  refine vc_stN ?_
  refine vc_seq fun K7 hK7 => ?_
  refine vc_region ?_
  refine vo_binI rfl rfl rfl rfl trivial ?_
  refine vo_nil ?_
  refine hK7 _ ?_
  refine vc_seq fun K8 hK8 => ?_
  refine vc_cond rfl (fun hc2 => ?_) (fun hc2 => ?_)
  ·try simp only [zq0, zq1, zq2, zq3, zq4, zq5, zq6, zq7, zq8, zq9, zqa, zqb, zqc, zqd, zqe, zqf] at hc2
   refine vc_skip ?_
   refine hK8 _ ?_
   refine vc_seq fun K9 hK9 => ?_
   refine vc_block ?_
   refine vc_seq fun K10 hK10 => ?_
   refine vc_region ?_
   refine vo_index_pv (.sl none 1 []) rfl rfl rfl E23.und inf28 sz28 sd sd ?_
   simp only [Int.toNat_natCast, Int.toNat_zero, getD_ints, getD_intss, getD_bools, getD_bytes, PV.cells]
   refine vo_load_adr rfl rfl Try.underlying28 rfl ?_
   refine vo_assign_pv rfl rfl ?_
   refine vo_nil ?_
   refine hK10 _ ?_
   refine vc_seq fun K11 hK11 => ?_
   refine vc_region ?_
   refine vo_move_pv rfl rfl ?_
   refine vo_call0 Try.func100 rfl rfl rfl rfl (isList_sat (lens hllists _ (by omega))) ?_
   rintro _ _ ⟨rfl, rfl⟩
   refine ⟨rfl, rfl, .inl rfl, ?_⟩
   refine vo_not rfl rfl ?_
   refine vo_nil ?_
   refine hK11 _ ?_
   refine vc_cond rfl (fun hc3 => ?_) (fun hc3 => ?_)
   ·try simp only [zq0, zq1, zq2, zq3, zq4, zq5, zq6, zq7, zq8, zq9, zqa, zqb, zqc, zqd, zqe, zqf] at hc3
    refine vc_seq fun K12 hK12 => ?_
    refine vc_region ?_
    refine vo_assign_pv rfl rfl ?_
    refine vo_nil ?_
    refine hK12 _ ?_
    refine vc_ret ?_
    change retPv _ _ _ _ _
    refine retPv_mk rfl rfl rfl ⟨?_, rfl⟩
    refine (congrArg (fun b => [bo b]) (?_ : _ = _) : [bo _] = [bo _])
    exact bF fun h => hc3 (h.1 _ (getD_mem (show k < lists.length by omega) []))
   ·try simp only [zq0, zq1, zq2, zq3, zq4, zq5, zq6, zq7, zq8, zq9, zqa, zqb, zqc, zqd, zqe, zqf] at hc3
    refine vc_skip ?_
    refine hK9 _ ?_
    refine vc_region ?_
    refine vo_binI rfl rfl rfl rfl sd ?_
    refine vo_move_pv rfl rfl ?_
    refine vo_nil ?_
    change againF _ _ _ _ _ _ _ _ _
    refine againF_mk rfl rfl rfl rfl rfl rfl ⟨_, ?_, k + 1, rfl, ?_, ?_, rfl⟩
    ·omega
    ·omega
    ·exact (all_take_succ (by omega) []).2 ⟨hf, hc3⟩
  ·try simp only [zq0, zq1, zq2, zq3, zq4, zq5, zq6, zq7, zq8, zq9, zqa, zqb, zqc, zqd, zqe, zqf] at hc2
   refine vc_exit ?_
   refine hK5 _ ?_
   refine vc_seq fun K13 hK13 => ?_
   refine vc_region ?_
   refine vo_assign_pv rfl rfl ?_
   refine vo_nil ?_
   refine hK13 _ ?_
   refine vc_ret ?_
   change retPv _ _ _ _ _
   refine retPv_mk rfl rfl rfl ⟨?_, rfl⟩
   refine (congrArg (fun b => [bo b]) (?_ : _ = _) : [bo _] = [bo _])
   rw [take_all (by omega)] at hf; exact bT ⟨hf, by omega⟩


theorem eachOnce_sat {nl0 : Option Bool} {list : List Int} (hlist : list.length < 1000000000)  : SatAt Try.prog 174 [.pv false (.sl nl0 1 (list.map intP))] [] (fun res rows => ∃ nl, res = [.ref 0] ∧ rows = [Row.own 3 1 nl true ((onceF [] list).map intP)]) := by
 refine sat_entry_g (ts := [2]) Try.func174 rfl rfl (by decide) (Nat.le_of_ble_eq_true rfl) fun C hC => ?_
 rw [Try.ntmps174]
 replace hC : C.nb = 0 := hC
 refine vc_seq fun K1 hK1 => ?_
 refine vc_region ?_
 refine vo_assign_pv rfl rfl ?_
 refine vo_nil ?_
 refine hK1 _ ?_
 refine vc_seq fun K2 hK2 => ?_
 refine vc_region ?_
 refine vo_assign_pv rfl rfl ?_
 refine vo_nil ?_
 refine hK2 _ ?_
 refine vc_seq fun K3 hK3 => ?_
 refine vc_seq fun K4 hK4 => ?_
 refine vc_region ?_
 refine vo_move_pv rfl rfl ?_
 refine vo_len_pv rfl rfl Try.underlying28 ?_
 refine vo_move_pv rfl rfl ?_
 refine vo_nil ?_
 refine hK4 _ ?_
 refine vc_block ?_
 refine vc_own_nil 3 E28 rfl ?_
 refine vc_stN ?_
 refine vc_loop [3, 6, 7, 8] (fun mz vs rows => ∃ (k : Nat) (acc : List Int), mz = list.length - k ∧ (k ≤ list.length) ∧ (onceF acc (list.drop k) = onceF [] list) ∧ (acc.length ≤ k) ∧ vs = [.ref 0, .pv false (.sl nl0 1 (list.map intP)), i64 (list.map intP).length, i64 k] ∧ rows = [Row.own 3 1 none true ((acc).map intP)]) (list.length) (le_len hC rfl) ⟨rfl, rfl⟩ ⟨0, [], rfl, Nat.zero_le _, rfl, (Nat.zero_le _), rfl, rfl⟩ ?_
 rintro mz vs rows - - ⟨k, acc, rfl, hk, hf, hl, rfl, rfl⟩
 refine vc_seq fun K5 hK5 => ?_
 refine vc_region ?_
 refine vo_binI rfl rfl rfl rfl trivial ?_
 refine vo_nil ?_
 refine hK5 _ ?_
 refine vc_seq fun K6 hK6 => ?_
 refine vc_cond rfl (fun hc1 => ?_) (fun hc1 => ?_)
 ·try simp only [zq0, zq1, zq2, zq3, zq4, zq5, zq6, zq7, zq8, zq9, zqa, zqb, zqc, zqd, zqe, zqf] at hc1
  refine vc_skip ?_
  refine hK6 _ ?_
  refine vc_seq fun K7 hK7 => ?_
  refine vc_block ?_
  refine vc_seq fun K8 hK8 => ?_
  refine vc_region ?_
  refine vo_index_pv (.int .i64 0) rfl rfl rfl E28.und inf3 sz3 sd sd ?_
  simp only [Int.toNat_natCast, Int.toNat_zero, getD_ints, getD_intss, getD_bools, getD_bytes, PV.cells]
  refine vo_load_adr rfl rfl Try.underlying3 rfl ?_
  refine vo_assign_pv rfl rfl ?_
  refine vo_nil ?_
  refine hK8 _ ?_
  refine vc_seq fun K9 hK9 => ?_
  refine vc_region ?_
  refine vo_move_ref rfl rfl ?_
  refine vo_move_pv rfl rfl ?_
  refine vo_call0 Try.func108 rfl rfl rfl rfl (Contains_sat (by omega)) ?_
  rintro _ _ ⟨rfl, rfl⟩
  refine ⟨rfl, rfl, .inr rfl, ?_⟩
  refine vo_not rfl rfl ?_
  refine vo_nil ?_
  refine hK9 _ ?_
  refine vc_cond rfl (fun hc2 => ?_) (fun hc2 => ?_)
  ·try simp only [zq0, zq1, zq2, zq3, zq4, zq5, zq6, zq7, zq8, zq9, zqa, zqb, zqc, zqd, zqe, zqf] at hc2
   refine vc_region ?_
   refine vo_move_ref rfl rfl ?_
   refine vo_move_pv rfl rfl ?_
   refine vo_buildSlice E28 rfl rfl rfl rfl rfl ?_
   refine vo_append E28 rfl (by omega) rfl rfl rfl sd sd ?_
   refine vo_stN ?_
   try simp only [app_ints, app_intss, app_bools]
   refine vo_assign_ref rfl rfl ?_
   refine vo_nil ?_
   refine hK7 _ ?_
   refine vc_region ?_
   refine vo_binI rfl rfl rfl rfl sd ?_
   refine vo_move_pv rfl rfl ?_
   refine vo_nil ?_
   change again _ _ _ _ _ _
   refine again_mk rfl rfl rfl rfl ⟨_, ?_, k + 1, acc ++ [list.getD k 0], rfl, ?_, ?_, ?_, rfl, rfl⟩
   ·omega
   ·omega
   ·exact ((onceF_drop acc list k (by omega)).trans (by rw [if_neg hc2])).symm.trans hf
   ·rw [List.length_append, List.length_singleton]; omega
  ·try simp only [zq0, zq1, zq2, zq3, zq4, zq5, zq6, zq7, zq8, zq9, zqa, zqb, zqc, zqd, zqe, zqf] at hc2
   refine vc_skip ?_
   refine hK7 _ ?_
   refine vc_region ?_
   refine vo_binI rfl rfl rfl rfl sd ?_
   refine vo_move_pv rfl rfl ?_
   refine vo_nil ?_
   change again _ _ _ _ _ _
   refine again_mk rfl rfl rfl rfl ⟨_, ?_, k + 1, acc, rfl, ?_, ?_, ?_, rfl, rfl⟩
   ·omega
   ·omega
   ·exact ((onceF_drop acc list k (by omega)).trans (by rw [if_pos hc2])).symm.trans hf
   ·omega
 ·try simp only [zq0, zq1, zq2, zq3, zq4, zq5, zq6, zq7, zq8, zq9, zqa, zqb, zqc, zqd, zqe, zqf] at hc1
  refine vc_exit ?_
  refine hK3 _ ?_
  refine vc_seq fun K10 hK10 => ?_
  refine vc_region ?_
  refine vo_move_ref rfl rfl ?_
  refine vo_assign_ref rfl rfl ?_
  refine vo_nil ?_
  refine hK10 _ ?_
  refine vc_ret ?_
  change retG _ _ _ _ _
  refine retG_one 0 hC rfl rfl rfl rfl rfl ?_
  exact ⟨_, rfl, rows_eq (g := intP) (by rw [← hf, List.drop_of_length_le (by omega)]; rfl)⟩


theorem heads_sat {nl0 : Option Bool} {lists : List (List Int)} (hlists : lists.length < 1000000000) (hllists : ∀ l ∈ lists, l.length < 1000000000)  : SatAt Try.prog 160 [.pv false (.sl nl0 1 (lists.map ints))] [] (fun res rows => ∃ nl, res = [.ref 0] ∧ rows = [Row.own 3 1 nl true ((onceF [] (hds lists)).map intP)]) := by
 refine sat_entry_g (ts := [2]) Try.func160 rfl rfl (by decide) (Nat.le_of_ble_eq_true rfl) fun C hC => ?_
 rw [Try.ntmps160]
 replace hC : C.nb = 0 := hC
 refine vc_seq fun K1 hK1 => ?_
 refine vc_region ?_
 refine vo_assign_pv rfl rfl ?_
 refine vo_nil ?_
 refine hK1 _ ?_
 refine vc_seq fun K2 hK2 => ?_
 refine vc_region ?_
 refine vo_assign_pv rfl rfl ?_
 refine vo_nil ?_
 refine hK2 _ ?_
 refine vc_seq fun K3 hK3 => ?_
 refine vc_seq fun K4 hK4 => ?_
 refine vc_region ?_
 refine vo_move_pv rfl rfl ?_
 refine vo_len_pv rfl rfl Try.underlying23 ?_
 refine vo_move_pv rfl rfl ?_
 refine vo_nil ?_
 refine hK4 _ ?_
 refine vc_block ?_
 refine vc_own_nil 3 E28 rfl ?_
 refine vc_stN ?_
 refine vc_loop [3, 6, 7, 8] (fun mz vs rows => ∃ (k : Nat), mz = lists.length - k ∧ (k ≤ lists.length) ∧ vs = [.ref 0, .pv false (.sl nl0 1 (lists.map ints)), i64 (lists.map ints).length, i64 k] ∧ rows = [Row.own 3 1 none true ((hds (lists.take k)).map intP)]) (lists.length) (le_len hC rfl) ⟨rfl, rfl⟩ ⟨0, rfl, Nat.zero_le _, rfl, rfl⟩ ?_
 rintro mz vs rows - - ⟨k, rfl, hk, rfl, rfl⟩
 have hL := hdsL lists k
 refine vc_seq fun K5 hK5 => ?_
 refine vc_region ?_
 refine vo_binI rfl rfl rfl rfl trivial ?_
 refine vo_nil ?_
 refine hK5 _ ?_
 refine vc_seq fun K6 hK6 => ?_
 refine vc_cond rfl (fun hc1 => ?_) (fun hc1 => ?_)
 ·try simp only [zq0, zq1, zq2, zq3, zq4, zq5, zq6, zq7, zq8, zq9, zqa, zqb, zqc, zqd, zqe, zqf] at hc1
  refine vc_skip ?_
  refine hK6 _ ?_
  refine vc_seq fun K7 hK7 => ?_
  refine vc_block ?_
  refine vc_seq fun K8 hK8 => ?_
  refine vc_region ?_
  refine vo_index_pv (.sl none 1 []) rfl rfl rfl E23.und inf28 sz28 sd sd ?_
  simp only [Int.toNat_natCast, Int.toNat_zero, getD_ints, getD_intss, getD_bools, getD_bytes, PV.cells]
  refine vo_load_adr rfl rfl Try.underlying28 rfl ?_
  refine vo_assign_pv rfl rfl ?_
  refine vo_nil ?_
  refine hK8 _ ?_
  refine vc_seq fun K9 hK9 => ?_
  refine vc_region ?_
  refine vo_move_pv rfl rfl ?_
  refine vo_len_pv rfl rfl Try.underlying28 ?_
  refine vo_binI rfl rfl rfl rfl trivial ?_
  refine vo_nil ?_
  refine hK9 _ ?_
  refine vc_cond rfl (fun hc2 => ?_) (fun hc2 => ?_)
  ·try simp only [zq0, zq1, zq2, zq3, zq4, zq5, zq6, zq7, zq8, zq9, zqa, zqb, zqc, zqd, zqe, zqf] at hc2
   refine vc_region ?_
   refine vo_move_ref rfl rfl ?_
   refine vo_move_pv rfl rfl ?_
   refine vo_index_pv (.int .i64 0) rfl rfl rfl E28.und inf3 sz3 sd sd ?_
   simp only [Int.toNat_natCast, Int.toNat_zero, getD_ints, getD_intss, getD_bools, getD_bytes, PV.cells]
   refine vo_load_adr rfl rfl Try.underlying3 rfl ?_
   refine vo_buildSlice E28 rfl rfl rfl rfl rfl ?_
   refine vo_append E28 rfl (by omega) rfl rfl rfl sd sd ?_
   refine vo_stN ?_
   try simp only [app_ints, app_intss, app_bools]
   refine vo_assign_ref rfl rfl ?_
   refine vo_nil ?_
   refine hK7 _ ?_
   refine vc_region ?_
   refine vo_binI rfl rfl rfl rfl sd ?_
   refine vo_move_pv rfl rfl ?_
   refine vo_nil ?_
   change again _ _ _ _ _ _
   refine again_mk rfl rfl rfl rfl ⟨_, ?_, k + 1, rfl, ?_, rfl, (congrArg (fun l => [Row.own 3 1 none true (List.map intP l)]) (show hds (lists.take k) ++ [(lists.getD k []).getD 0 0] = hds (lists.take (k+1)) by rw [hds_snoc (by omega), hd1_t (by omega)]))⟩
   ·omega
   ·omega
  ·try simp only [zq0, zq1, zq2, zq3, zq4, zq5, zq6, zq7, zq8, zq9, zqa, zqb, zqc, zqd, zqe, zqf] at hc2
   refine vc_skip ?_
   refine hK7 _ ?_
   refine vc_region ?_
   refine vo_binI rfl rfl rfl rfl sd ?_
   refine vo_move_pv rfl rfl ?_
   refine vo_nil ?_
   change again _ _ _ _ _ _
   refine again_mk rfl rfl rfl rfl ⟨_, ?_, k + 1, rfl, ?_, rfl, (congrArg (fun l => [Row.own 3 1 none true (List.map intP l)]) (show hds (lists.take k) = hds (lists.take (k+1)) by rw [hds_snoc (by omega), hd1_f (by omega), List.append_nil]))⟩
   ·omega
   ·omega
 ·try simp only [zq0, zq1, zq2, zq3, zq4, zq5, zq6, zq7, zq8, zq9, zqa, zqb, zqc, zqd, zqe, zqf] at hc1
  refine vc_exit ?_
  refine hK3 _ ?_
  refine vc_seq fun K10 hK10 => ?_
  refine vc_region ?_
  refine vo_move_ref rfl rfl ?_
  refine vo_expose 0 (by omega) rfl ?_
  refine vo_weaken 22 rfl ?_
  refine vo_stN ?_
  refine vo_call [] Try.func174 rfl rfl rfl rfl rfl rfl rfl (eachOnce_sat (list := hds (lists.take k)) (by have := hdsL lists k; omega)) ?_
  rintro _ _ ⟨nl9, rfl, rfl⟩
  refine ⟨Nat.le_of_ble_eq_true rfl, ⟨rfl, rfl, rfl, rfl⟩, .inl rfl, ?_⟩
  refine vo_stN ?_
  refine vo_assign_ref rfl rfl ?_
  refine vo_nil ?_
  refine hK10 _ ?_
  refine vc_ret ?_
  change retG _ _ _ _ _
  refine retG_one 1 hC rfl rfl rfl rfl rfl ?_
  exact ⟨_, rfl, rows_eq (g := intP) (by rw [take_all (by omega)])⟩


theorem empty_sat {nl0 : Option Bool} {lists : List (List Int)} (hlists : lists.length < 1000000000) (hllists : ∀ l ∈ lists, l.length < 1000000000)  : SatAt Try.prog 110 [.pv false (.sl nl0 1 (lists.map ints))] [] (fun res rows => res = [bo (decide (hds lists = []))] ∧ rows = []) := by
 refine sat_entry (ts := [2]) Try.func110 rfl rfl (by decide) (Nat.le_of_ble_eq_true rfl) fun C hC => ?_
 rw [Try.ntmps110]
 replace hC : C.nb = 0 := hC
 refine vc_seq fun K1 hK1 => ?_
 refine vc_region ?_
 refine vo_assign_pv rfl rfl ?_
 refine vo_nil ?_
 refine hK1 _ ?_
 refine vc_seq fun K2 hK2 => ?_
 refine vc_seq fun K3 hK3 => ?_
 refine vc_region ?_
 refine vo_assign_pv rfl rfl ?_
 refine vo_nil ?_
 refine hK3 _ ?_
 refine vc_block ?_
 refine vc_stN ?_
 refine vc_loopF [0] [3] [.pv false (.sl nl0 1 (lists.map ints))] _ (fun mz vs => ∃ (k : Nat), mz = lists.length - k ∧ (k ≤ lists.length) ∧ (hds (lists.take k) = []) ∧ vs = [i64 k]) (lists.length) rfl rfl (le_len hC rfl) ⟨rfl, rfl, rfl⟩ ⟨0, rfl, Nat.zero_le _, rfl, rfl⟩ ?_
 rintro mz vs - ⟨k, rfl, hk, hf, rfl⟩
 refine vc_stN ?_
 refine vc_seq fun K4 hK4 => ?_
 refine vc_seq fun K5 hK5 => ?_
 refine vc_region ?_
 refine vo_move_pv rfl rfl ?_
 refine vo_move_pv rfl rfl ?_
 refine vo_len_pv rfl rfl Try.underlying23 ?_
 refine vo_binI rfl rfl rfl rfl trivial ?_
 refine vo_nil ?_
 refine hK5 _ ?_
 refine vc_cond rfl (fun hc1 => ?_) (fun hc1 => ?_)
 ·try simp only [zq0, zq1, zq2, zq3, zq4, zq5, zq6, zq7, zq8, zq9, zqa, zqb, zqc, zqd, zqe, zqf] at hc1
  refine vc_skip ?_
  refine hK4 _ ?_
  refine vc_seq fun K6 hK6 => ?_
  refine vc_block ?_
  refine vc_seq fun K7 hK7 => ?_
  refine vc_region ?_
  refine vo_move_pv rfl rfl ?_
  refine vo_move_pv rfl rfl ?_
  refine vo_index_pv (.sl none 1 []) rfl rfl rfl E23.und inf28 sz28 sd sd ?_
  simp only [Int.toNat_natCast, Int.toNat_zero, getD_ints, getD_intss, getD_bools, getD_bytes, PV.cells]
  refine vo_load_adr rfl rfl Try.underlying28 rfl ?_
  refine vo_len_pv rfl rfl Try.underlying28 ?_
  refine vo_binI rfl rfl rfl rfl trivial ?_
  refine vo_nil ?_
  refine hK7 _ ?_
  refine vc_cond rfl (fun hc2 => ?_) (fun hc2 => ?_)
  ·try simp only [zq0, zq1, zq2, zq3, zq4, zq5, zq6, zq7, zq8, zq9, zqa, zqb, zqc, zqd, zqe, zqf] at hc2
   refine vc_seq fun K8 hK8 => ?_
   refine vc_region ?_
   refine vo_assign_pv rfl rfl ?_
   refine vo_nil ?_
   refine hK8 _ ?_
   refine vc_ret ?_
   change retPv _ _ _ _ _
   refine retPv_mk rfl rfl rfl ⟨?_, rfl⟩
   refine (congrArg (fun b => [bo b]) (?_ : _ = _) : [bo _] = [bo _])
   exact bF (hds_ne (k := k) (by omega) (by omega))
  ·try simp only [zq0, zq1, zq2, zq3, zq4, zq5, zq6, zq7, zq8, zq9, zqa, zqb, zqc, zqd, zqe, zqf] at hc2
   refine vc_skip ?_
   refine hK6 _ ?_
   refine vc_region ?_
   refine vo_move_pv rfl rfl ?_
   refine vo_binI rfl rfl rfl rfl sd ?_
   refine vo_assign_pv rfl rfl ?_
   refine vo_nil ?_
   change againF _ _ _ _ _ _ _ _ _
   refine againF_mk rfl rfl rfl rfl rfl rfl ⟨_, ?_, k + 1, rfl, ?_, ?_, rfl⟩
   ·omega
   ·omega
   ·exact hds_take0 (by omega) hf (by omega)
 ·try simp only [zq0, zq1, zq2, zq3, zq4, zq5, zq6, zq7, zq8, zq9, zqa, zqb, zqc, zqd, zqe, zqf] at hc1
  refine vc_exit ?_
  refine hK2 _ ?_
  refine vc_seq fun K9 hK9 => ?_
  refine vc_region ?_
  refine vo_assign_pv rfl rfl ?_
  refine vo_nil ?_
  refine hK9 _ ?_
  refine vc_ret ?_
  change retPv _ _ _ _ _
  refine retPv_mk rfl rfl rfl ⟨?_, rfl⟩
  refine (congrArg (fun b => [bo b]) (?_ : _ = _) : [bo _] = [bo _])
  rw [take_all (by omega)] at hf; exact bT hf

end Go.Vl

namespace Go.Vl
set_option linter.unusedVariables false
set_option linter.unusedSimpArgs false
open Go.Proofs
theorem mgR_no {ls : List (List Int)} (h : ¬ mgOK ls) : mgR ls = [] := if_neg h
theorem mgR_yes {ls : List (List Int)} (h : mgOK ls) : mgR ls = (mergeM ls).1 := if_pos h
theorem mgL_all {ls : List (List Int)} {N : Nat} (h : ∀ l ∈ ls, l.length < N) : ∀ l ∈ (mergeM ls).2, l.length < N := mgL_mem _ _ h
theorem mgO_len (ls : List (List Int)) : (mergeM ls).1.length ≤ tot ls := by have := mergeF_tot (tot ls) ls; unfold mergeM; omega
theorem mgR_len {ls : List (List Int)} : (mgR ls).length < 1000000000 := by
  by_cases h : mgOK ls
  · rw [mgR_yes h]; exact Nat.lt_of_le_of_lt (mgO_len ls) h.1.tot
  · rw [mgR_no h]; simp
theorem once0 {l : List Int} (h : ¬ 0 < (onceF [] l).length) : l = [] := once_nil.1 (List.eq_nil_of_length_eq_zero (by omega))
theorem once1 {l : List Int} (h : 0 < (onceF [] l).length) : l ≠ [] := fun e => by rw [e] at h; simp [onceF] at h
theorem implMergeLists_sat {nl0 : Option Bool} {lists : List (List Int)} (hlists : lists.length < 1000000000) (hllists : ∀ l ∈ lists, l.length < 1000000000) : SatAt Try.prog 133 [.pv false (.sl nl0 1 (lists.map ints))] [] (fun res rows => ∃ nl, res = [.ref 0, bo (decide (mgOK lists))] ∧ rows = [Row.own 3 1 nl true ((mgR lists).map intP)]) := by
 refine sat_entry_g (ts := [2, 3]) Try.func133 rfl rfl (by decide) (Nat.le_of_ble_eq_true rfl) fun C hC => ?_
 rw [Try.ntmps133]
 replace hC : C.nb = 0 := hC
 refine vc_seq fun K1 hK1 => ?_
 refine vc_region ?_
 refine vo_assign_pv rfl rfl ?_
 refine vo_assign_pv rfl rfl ?_
 refine vo_nil ?_
 refine hK1 _ ?_
 refine vc_seq fun K2 hK2 => ?_
 refine vc_seq fun K3 hK3 => ?_
 refine vc_region ?_
 refine vo_move_pv rfl rfl ?_
 refine vo_call0 Try.func158 rfl rfl rfl rfl (canMerge_sat hlists hllists) ?_
 rintro _ _ ⟨rfl, rfl⟩
 refine ⟨rfl, rfl, .inl rfl, ?_⟩
 refine vo_not rfl rfl ?_
 refine vo_nil ?_
 refine hK3 _ ?_
 refine vc_cond rfl (fun hc1 => ?_) (fun hc1 => ?_)
 ·try simp only [zq0, zq1, zq2, zq3, zq4, zq5, zq6, zq7, zq8, zq9, zqa, zqb, zqc, zqd, zqe, zqf] at hc1
  refine vc_seq fun K4 hK4 => ?_
  refine vc_region ?_
  refine vo_assign_pv rfl rfl ?_
  refine vo_assign_pv rfl rfl ?_
  refine vo_nil ?_
  refine hK4 _ ?_
  refine vc_own_nil 2 E28 rfl ?_
  refine vc_ret ?_
  change retG _ _ _ _ _
  refine retG_one 0 hC rfl rfl rfl rfl rfl ?_
  exact ⟨_, congrArg (fun b => [SV.ref 0, bo b]) (bF fun h => hc1 h.1), rows_eq (g := intP) ((mgR_no fun h => hc1 h.1).symm)⟩
 ·try simp only [zq0, zq1, zq2, zq3, zq4, zq5, zq6, zq7, zq8, zq9, zqa, zqb, zqc, zqd, zqe, zqf] at hc1
  refine vc_skip ?_
  refine hK2 _ ?_
  refine vc_seq fun K5 hK5 => ?_
  refine vc_region ?_
  refine vo_move_pv rfl rfl ?_
  refine vo_call [] Try.func159 rfl rfl rfl rfl rfl rfl rfl (mergeAll_sat hlists hllists hc1.tot) ?_
  rintro _ _ ⟨rfl, rfl⟩
  refine ⟨Nat.le_of_ble_eq_true rfl, ⟨rfl, rfl, rfl, rfl⟩, .inl rfl, ?_⟩
  refine vo_stN ?_
  refine vo_move rfl ?_
  refine vo_extract rfl rfl rfl ?_
  refine vo_extract rfl rfl rfl ?_
  refine vo_assign_ref rfl rfl ?_
  refine vo_assign_pv rfl rfl ?_
  refine vo_nil ?_
  refine hK5 _ ?_
  refine vc_seq fun K6 hK6 => ?_
  refine vc_seq fun K7 hK7 => ?_
  refine vc_region ?_
  refine vo_move_pv rfl rfl ?_
  refine vo_call [] Try.func160 rfl rfl rfl rfl rfl rfl rfl (heads_sat (lists := (mergeM lists).2) (by rw [mgL_len]; omega) (mgL_all hllists)) ?_
  rintro _ _ ⟨nl9, rfl, rfl⟩
  refine ⟨Nat.le_of_ble_eq_true rfl, ⟨rfl, rfl, rfl, rfl⟩, .inl rfl, ?_⟩
  refine vo_stN ?_
  refine vo_len_ref rfl rfl rfl Try.underlying28 ?_
  refine vo_binI rfl rfl rfl rfl trivial ?_
  refine vo_nil ?_
  refine hK7 _ ?_
  refine vc_cond rfl (fun hc2 => ?_) (fun hc2 => ?_)
  ·try simp only [zq0, zq1, zq2, zq3, zq4, zq5, zq6, zq7, zq8, zq9, zqa, zqb, zqc, zqd, zqe, zqf] at hc2
   refine vc_seq fun K8 hK8 => ?_
   refine vc_region ?_
   refine vo_assign_pv rfl rfl ?_
   refine vo_assign_pv rfl rfl ?_
   refine vo_nil ?_
   refine hK8 _ ?_
   refine vc_own_nil 2 E28 rfl ?_
   refine vc_ret ?_
   change retG _ _ _ _ _
   refine retG_one 2 hC rfl rfl rfl rfl rfl ?_
   exact ⟨_, congrArg (fun b => [SV.ref 0, bo b]) (bF fun h => once1 (by omega) h.2), rows_eq (g := intP) ((mgR_no fun h => once1 (by omega) h.2).symm)⟩
  ·try simp only [zq0, zq1, zq2, zq3, zq4, zq5, zq6, zq7, zq8, zq9, zqa, zqb, zqc, zqd, zqe, zqf] at hc2
   refine vc_skip ?_
   refine hK6 _ ?_
   refine vc_seq fun K9 hK9 => ?_
   refine vc_region ?_
   refine vo_move_ref rfl rfl ?_
   refine vo_assign_ref rfl rfl ?_
   refine vo_assign_pv rfl rfl ?_
   refine vo_nil ?_
   refine hK9 _ ?_
   refine vc_ret ?_
   change retG _ _ _ _ _
   refine retG_one 0 hC rfl rfl rfl rfl rfl ?_
   exact ⟨_, congrArg (fun b => [SV.ref 0, bo b]) (bT ⟨hc1, once0 (by omega)⟩), rows_eq (g := intP) ((mgR_yes ⟨hc1, once0 (by omega)⟩).symm)⟩

end Go.Vl

namespace Go.Vl
set_option linter.unusedVariables false
set_option linter.unusedSimpArgs false
open Go.Proofs

end Go.Vl

namespace Go.Vl
set_option linter.unusedVariables false
set_option linter.unusedSimpArgs false
open Go.Proofs
theorem fM_ge (x : Int) : ∀ (l : List Int) (i : Int), 0 ≤ i → x ∈ l → i ≤ fM x l i
  | [], _, _, h => by cases h
  | y :: l, i, hi, h => by
    unfold fM
    split
    · exact Int.le_refl _
    · rename_i hy
      rcases List.mem_cons.1 h with h | h
      · exact absurd h.symm hy
      · have := fM_ge x l (i+1) (by omega) h
        omega
theorem tk_not {x : Int} {l : List Int} (h : l.Nodup) (hb : ¬ bhd x l) : x ∉ tk x l := by
  cases l with
  | nil => simp [tk]
  | cons y l =>
    by_cases hy : y = x
    · rw [tk_t (by simp) (by simpa using hy), ← hy]
      exact (List.nodup_cons.1 h).1
    · rw [tk_f (by simpa using hy)]
      intro hm
      rcases List.mem_cons.1 hm with h1 | h1
      · exact hy h1.symm
      · apply hb
        unfold bhd fM
        rw [if_neg hy]
        have := fM_ge x l (0+1) (by omega) h1
        omega
theorem tk_nodup {x : Int} {l : List Int} (h : l.Nodup) : (tk x l).Nodup := by
  unfold tk; split
  · exact (List.drop_sublist 1 l).nodup h
  · exact h
theorem tk_sub {x y : Int} {l : List Int} (h : y ∈ tk x l) : y ∈ l := by
  unfold tk at h; split at h
  · exact List.mem_of_mem_drop h
  · exact h
theorem mergeF_mem : ∀ (n : Nat) (ls : List (List Int)) (x : Int), x ∈ (mergeF n ls).1 → ∃ l ∈ ls, x ∈ l
  | 0, ls, x, h => by simp [mergeF] at h
  | n+1, ls, x, h => by
    unfold mergeF at h
    split at h
    · simp at h
    · rename_i y hy
      rcases List.mem_cons.1 h with h | h
      · obtain ⟨l, h1, h2, h3, _⟩ := fhF_some hy
        exact ⟨l, h1, by rw [h, ← h3]; exact getD_mem h2 0⟩
      · obtain ⟨l', h1, h2⟩ := mergeF_mem n _ x h
        obtain ⟨l, h3, rfl⟩ := List.mem_map.1 h1
        exact ⟨l, h3, tk_sub h2⟩
theorem mergeF_nodup : ∀ (n : Nat) (ls : List (List Int)), (∀ l ∈ ls, l.Nodup) → (mergeF n ls).1.Nodup
  | 0, ls, h => by simp [mergeF]
  | n+1, ls, h => by
    unfold mergeF
    split
    · exact List.nodup_nil
    · rename_i x hx
      obtain ⟨_, _, _, _, hb⟩ := fhF_some hx
      refine List.nodup_cons.2 ⟨fun hm => ?_, mergeF_nodup n _ fun l' hl' => ?_⟩
      · obtain ⟨l', h1, h2⟩ := mergeF_mem n _ x hm
        obtain ⟨l, h3, rfl⟩ := List.mem_map.1 h1
        exact tk_not (h _ h3) (fun hbl => hb ⟨l, h3, hbl⟩) h2
      · obtain ⟨l, h3, rfl⟩ := List.mem_map.1 hl'
        exact tk_nodup (h _ h3)
/-- Orders. -/
def ordL (o : List (List Int)) (l : List Int) : List (List Int) := l.map (fun x => o.getD x.toNat [])
def ordS (o : List (List Int)) (l : List Int) (c : Int) : List Int :=
  if ∃ x ∈ l, o.getD x.toNat [] = [] then [] else if hds (mergeM (ordL o l ++ [l])).2 = [] then c :: (mergeM (ordL o l ++ [l])).1 else []
def ordT (b : List (List Int)) : Nat → List (List Int)
  | 0 => []
  | n+1 => ordT b n ++ [ordS (ordT b n) (b.getD n []) n]
def ordM (b : List (List Int)) (c : Nat) : List Int := ordS (ordT b c) (b.getD c []) c
theorem ordT_len (b : List (List Int)) : ∀ n, (ordT b n).length = n
  | 0 => rfl
  | n+1 => by rw [ordT, List.length_append, ordT_len b n]; rfl
theorem ordT_get (b : List (List Int)) : ∀ (n k : Nat), k < n → (ordT b n).getD k [] = ordM b k
  | n+1, k, h => by
    rw [ordT]
    by_cases hk : k < n
    · rw [← ordT_get b n k hk]; simp only [List.getD]; rw [List.getElem?_append_left (by rw [ordT_len]; exact hk)]
    · have : k = n := by omega
      subst this
      simp only [List.getD]; rw [List.getElem?_append_right (by rw [ordT_len]; exact Nat.le_refl _), ordT_len, Nat.sub_self]; rfl
def OKord (o : List Int) (c : Nat) : Prop := o.Nodup ∧ ∀ x ∈ o, 0 ≤ x ∧ x ≤ c
theorem pig : ∀ (n : Nat) (o : List Int), o.Nodup → (∀ x ∈ o, 0 ≤ x ∧ x < n) → o.length ≤ n
  | 0, [], _, _ => Nat.le_refl _
  | 0, x :: o, _, h => by have := h x List.mem_cons_self; omega
  | n+1, o, h, hx => by
    by_cases hm : (n : Int) ∈ o
    · have h1 := pig n (o.erase n) (h.erase _) fun x h2 => by
        obtain ⟨h3, h4⟩ := (h.mem_erase_iff).1 h2
        have := hx x h4
        omega
      rw [List.length_erase_of_mem hm] at h1
      omega
    · have h1 := pig n o h fun x h2 => by
        have := hx x h2
        have : x ≠ n := fun e => hm (e ▸ h2)
        omega
      omega
theorem nodup_len {o : List Int} {c : Nat} (h : OKord o c) : o.length ≤ c + 1 := pig (c+1) o h.1 fun x hx => by have := h.2 x hx; omega
theorem VB.at {b : List (List Int)} (h : VB b) {c : Nat} (hc : c < b.length) : (b.getD c []).length ≤ 4 ∧ (b.getD c []).Nodup ∧ ∀ x ∈ b.getD c [], 0 ≤ x ∧ x ≤ (c : Int) - 1 := ((vb_iff b).1 h).2 c hc |>.2
theorem ordL_ok {b : List (List Int)} (hv : VB b) {c : Nat} (hc : c < b.length) (ih : ∀ k < c, OKord (ordM b k) k) : ∀ l ∈ ordL (ordT b c) (b.getD c []) ++ [b.getD c []], l.Nodup ∧ l.length ≤ 12 ∧ ∀ x ∈ l, 0 ≤ x ∧ x ≤ (c : Int) - 1 := by
  have h12 := hv.2.1
  obtain ⟨h4, hn, hx⟩ := hv.at hc
  intro l hl
  rcases List.mem_append.1 hl with h1 | h1
  · obtain ⟨x, h2, rfl⟩ := List.mem_map.1 h1
    have h3 := hx x h2
    have e := ordT_get b c x.toNat (by omega)
    have h5 := ih x.toNat (by omega)
    have h6 := nodup_len h5
    rw [e]
    exact ⟨h5.1, by omega, fun y hy => by have := h5.2 y hy; omega⟩
  · rw [List.mem_singleton.1 h1]
    exact ⟨hn, by omega, hx⟩
theorem ordM_ok {b : List (List Int)} (hv : VB b) : ∀ c, c < b.length → OKord (ordM b c) c := by
  intro c
  induction c using Nat.strongRecOn with
  | ind c ih =>
    intro hc
    have hL := ordL_ok hv hc (fun k hk => ih k hk (by omega))
    unfold ordM ordS
    split
    · exact ⟨List.nodup_nil, by simp⟩
    · split
      · refine ⟨List.nodup_cons.2 ⟨fun hm => ?_, mergeF_nodup _ _ fun l hl => (hL l hl).1⟩, fun x hx => ?_⟩
        · obtain ⟨l, h1, h2⟩ := mergeF_mem _ _ _ hm
          have := (hL l h1).2.2 _ h2
          omega
        · rcases List.mem_cons.1 hx with h | h
          · omega
          · obtain ⟨l, h1, h2⟩ := mergeF_mem _ _ _ h
            have := (hL l h1).2.2 _ h2
            omega
      · exact ⟨List.nodup_nil, by simp⟩
theorem ordM_len {b : List (List Int)} (hv : VB b) {c : Nat} (hc : c < b.length) : (ordM b c).length ≤ 12 := by
  have := nodup_len (ordM_ok hv c hc)
  have := hv.2.1
  omega
theorem ordL_OKLs {b : List (List Int)} (hv : VB b) {c : Nat} (hc : c < b.length) : OKLs (ordL (ordT b c) (b.getD c []) ++ [b.getD c []]) := by
  have hL := ordL_ok hv hc (fun k hk => ordM_ok hv k (by omega))
  obtain ⟨h4, _, _⟩ := hv.at hc
  refine ⟨fun l hl => ⟨?_, (hL l hl).1⟩, ?_⟩
  · have := (hL l hl).2.1; omega
  · simp only [ordL, List.length_append, List.length_map, List.length_singleton]; omega

end Go.Vl

namespace Go.Vl
set_option linter.unusedVariables false
set_option linter.unusedSimpArgs false
open Go.Proofs
theorem ordL_snoc (o : List (List Int)) {l : List Int} {k : Nat} (h : k < l.length) : ordL o (l.take k) ++ [o.getD (l.getD k 0).toNat []] = ordL o (l.take (k+1)) := by
  have e : l.getD k 0 = l[k] := by simp [List.getD, List.getElem?_eq_getElem h]
  unfold ordL
  rw [List.take_succ_eq_append_getElem h, List.map_append, e]; rfl
theorem ordL_len (o : List (List Int)) (l : List Int) : (ordL o l).length = l.length := List.length_map ..
theorem ordM_stuck {b : List (List Int)} {c : Nat} {x : Int} (hv : VB b) (hc : c < b.length) (hx : x ∈ b.getD c []) (h : ordM b x.toNat = []) : ordM b c = [] := by
  have := (hv.at hc).2.2 x hx
  unfold ordM ordS
  rw [if_pos ⟨x, hx, by rw [ordT_get b c _ (by omega)]; exact h⟩]
theorem ordM_go {b : List (List Int)} {c : Nat} (h : ∀ x ∈ b.getD c [], (ordT b c).getD x.toNat [] ≠ []) : ordM b c = if hds (mergeM (ordL (ordT b c) (b.getD c []) ++ [b.getD c []])).2 = [] then (c : Int) :: (mergeM (ordL (ordT b c) (b.getD c []) ++ [b.getD c []])).1 else [] := by
  unfold ordM ordS
  rw [if_neg (fun ⟨x, h1, h2⟩ => h x h1 h2)]
theorem ordT_at {b : List (List Int)} (hv : VB b) {c : Nat} (hc : c < b.length) {x : Int} (hx : x ∈ b.getD c []) : (ordT b c).getD x.toNat [] = ordM b x.toNat := by
  have := (hv.at hc).2.2 x hx
  exact ordT_get b c _ (by omega)
theorem row1_eqF {el : TypeId} {e : Nat} {nl : Option Bool} {f : Bool} {a b : List PV} (h : a = b) : [Row.own el e nl f a] = [Row.own el e nl f b] := by rw [h]

theorem orderOf_step {nl0 : Option Bool} {bases : List (List Int)} {c : Nat} (hbases : bases.length < 1000000000) (hlbases : ∀ l ∈ bases, l.length < 1000000000) (hv : VB bases) (hc : c < bases.length) (ih : ∀ x : Int, 0 ≤ x → x < c → SatAt Try.prog 65 [.pv false (.sl nl0 1 (bases.map ints)), i64 x] [] (fun res rows => ∃ nl, res = [.ref 0] ∧ rows = [Row.own 3 1 nl true ((ordM bases x.toNat).map intP)])) : SatAt Try.prog 65 [.pv false (.sl nl0 1 (bases.map ints)), i64 c] [] (fun res rows => ∃ nl, res = [.ref 0] ∧ rows = [Row.own 3 1 nl true ((ordM bases c).map intP)]) := by
  refine sat_entry_g (ts := [4]) Try.func65 rfl rfl (by decide) (Nat.le_of_ble_eq_true rfl) fun C hC => ?_
  rw [Try.ntmps65]
  replace hC : C.nb = 0 := hC
  refine vc_seq fun K1 hK1 => ?_
  refine vc_region ?_
  refine vo_assign_pv rfl rfl ?_
  refine vo_nil ?_
  refine hK1 _ ?_
  refine vc_seq fun K2 hK2 => ?_
  refine vc_region ?_
  refine vo_buildSlice E23 rfl rfl rfl rfl rfl ?_
  refine vo_assign_ref rfl rfl ?_
  refine vo_nil ?_
  refine hK2 _ ?_
  refine vc_seq fun K3 hK3 => ?_
  refine vc_seq fun K4 hK4 => ?_
  refine vc_region ?_
  refine vo_assign_pv rfl rfl ?_
  refine vo_nil ?_
  refine hK4 _ ?_
  refine vc_block ?_
  refine vc_flagrow 0 rfl ?_
  refine vc_stN ?_
  refine vc_loop [0, 1, 5, 6] (fun mz vs rows => ∃ (k : Nat), mz = (bases.getD c []).length - k ∧ (k ≤ (bases.getD c []).length) ∧ (∀ x ∈ (bases.getD c []).take k, (ordT bases c).getD x.toNat [] ≠ []) ∧ vs = [.pv false (.sl nl0 1 (bases.map ints)), i64 c, .ref 0, i64 k] ∧ rows = [Row.own 28 1 (some false) false ((ordL (ordT bases c) ((bases.getD c []).take k)).map ints)]) ((bases.getD c []).length) (le_len hC rfl) ⟨rfl, rfl⟩ ⟨0, rfl, Nat.zero_le _, (by simp), rfl, rfl⟩ ?_
  rintro mz vs rows - - ⟨k, rfl, hk, hf, rfl, rfl⟩
  have hll := ordL_len (ordT bases c) ((bases.getD c []).take k)
  rw [List.length_take] at hll
  have h4 := (hv.at hc).1
  refine vc_seq fun K5 hK5 => ?_
  refine vc_seq fun K6 hK6 => ?_
  refine vc_region ?_
  refine vo_move_pv rfl rfl ?_
  refine vo_move_pv rfl rfl ?_
  refine vo_move_pv rfl rfl ?_
  refine vo_index_pv (.sl none 1 []) rfl rfl rfl E23.und inf28 sz28 sd sd ?_
  simp only [Int.toNat_natCast, Int.toNat_zero, getD_ints, getD_intss, getD_bools, getD_bytes, PV.cells]
  refine vo_load_adr rfl rfl Try.underlying28 rfl ?_
  refine vo_len_pv rfl rfl Try.underlying28 ?_
  refine vo_binI rfl rfl rfl rfl trivial ?_
  refine vo_nil ?_
  refine hK6 _ ?_
  refine vc_cond rfl (fun hc1 => ?_) (fun hc1 => ?_)
  · try simp only [zq0, zq1, zq2, zq3, zq4, zq5, zq6, zq7, zq8, zq9, zqa, zqb, zqc, zqd, zqe, zqf] at hc1
    have hm := getD_mem (show k < (bases.getD c []).length by omega) 0
    have hb := (hv.at hc).2.2 _ hm
    have he := ordT_at hv hc hm
    have hle := ordM_len hv (show ((bases.getD c []).getD k 0).toNat < bases.length by omega)
    refine vc_skip ?_
    refine hK5 _ ?_
    refine vc_seq fun K7 hK7 => ?_
    refine vc_block ?_
    refine vc_seq fun K8 hK8 => ?_
    refine vc_region ?_
    refine vo_move_pv rfl rfl ?_
    refine vo_move_pv rfl rfl ?_
    refine vo_move_pv rfl rfl ?_
    refine vo_index_pv (.sl none 1 []) rfl rfl rfl E23.und inf28 sz28 sd sd ?_
    simp only [Int.toNat_natCast, Int.toNat_zero, getD_ints, getD_intss, getD_bools, getD_bytes, PV.cells]
    refine vo_load_adr rfl rfl Try.underlying28 rfl ?_
    refine vo_move_pv rfl rfl ?_
    refine vo_index_pv (.int .i64 0) rfl rfl rfl E28.und inf3 sz3 sd sd ?_
    simp only [Int.toNat_natCast, Int.toNat_zero, getD_ints, getD_intss, getD_bools, getD_bytes, PV.cells]
    refine vo_load_adr rfl rfl Try.underlying3 rfl ?_
    refine vo_call [] Try.func65 rfl rfl rfl rfl rfl rfl rfl (ih _ hb.1 (by omega)) ?_
    rintro _ _ ⟨nl9, rfl, rfl⟩
    refine ⟨Nat.le_of_ble_eq_true rfl, ⟨rfl, rfl, rfl, rfl⟩, .inl rfl, ?_⟩
    refine vo_stN ?_
    refine vo_expose 1 (by omega) rfl ?_
    refine vo_stN ?_
    refine vo_weaken 28 rfl ?_
    refine vo_flag 28 rfl ?_
    refine vo_stN ?_
    refine vo_assign_pv rfl rfl ?_
    refine vo_nil ?_
    refine hK8 _ ?_
    refine vc_seq fun K9 hK9 => ?_
    refine vc_seq fun K10 hK10 => ?_
    refine vc_region ?_
    refine vo_move_pv rfl rfl ?_
    refine vo_len_pv rfl rfl Try.underlying28 ?_
    refine vo_binI rfl rfl rfl rfl trivial ?_
    refine vo_nil ?_
    refine hK10 _ ?_
    refine vc_cond rfl (fun hc2 => ?_) (fun hc2 => ?_)
    · try simp only [zq0, zq1, zq2, zq3, zq4, zq5, zq6, zq7, zq8, zq9, zqa, zqb, zqc, zqd, zqe, zqf] at hc2
      refine vc_seq fun K11 hK11 => ?_
      refine vc_region ?_
      refine vo_buildSlice E28 rfl rfl rfl rfl rfl ?_
      refine vo_assign_ref rfl rfl ?_
      refine vo_nil ?_
      refine hK11 _ ?_
      refine vc_ret ?_
      change retG _ _ _ _ _
      refine retG_one 2 hC rfl rfl rfl rfl rfl ?_
      exact ⟨_, rfl, rows_eq (g := intP) ((ordM_stuck hv hc hm (List.eq_nil_of_length_eq_zero (by omega))).symm)⟩
    · try simp only [zq0, zq1, zq2, zq3, zq4, zq5, zq6, zq7, zq8, zq9, zqa, zqb, zqc, zqd, zqe, zqf] at hc2
      refine vc_skip ?_
      refine hK9 _ ?_
      refine vc_region ?_
      refine vo_move_ref rfl rfl ?_
      refine vo_move_pv rfl rfl ?_
      refine vo_weaken 34 rfl ?_
      refine vo_buildSlice E23 rfl rfl rfl rfl rfl ?_
      refine vo_append E23 rfl (by omega) rfl rfl rfl sd sd ?_
      refine vo_stN ?_
      try simp only [app_ints, app_intss, app_bools]
      refine vo_assign_ref rfl rfl ?_
      refine vo_nil ?_
      refine hK7 _ ?_
      refine vc_region ?_
      refine vo_move_pv rfl rfl ?_
      refine vo_binI rfl rfl rfl rfl sd ?_
      refine vo_assign_pv rfl rfl ?_
      refine vo_nil ?_
      change again _ _ _ _ _ _
      refine again_mk rfl rfl rfl rfl ⟨_, ?_, k + 1, rfl, ?_, ?_, rfl, (congrArg (fun l => [Row.own 28 1 (some false) false (List.map ints l)]) (show ordL (ordT bases c) ((bases.getD c []).take k) ++ [ordM bases ((bases.getD c []).getD k 0).toNat] = ordL (ordT bases c) ((bases.getD c []).take (k+1)) by rw [← he, ordL_snoc _ (by omega)]))⟩
      · omega
      · omega
      · exact (all_take_succ (by omega) 0).2 ⟨hf, fun e => by rw [he] at e; rw [e] at hc2; simp at hc2⟩
  · try simp only [zq0, zq1, zq2, zq3, zq4, zq5, zq6, zq7, zq8, zq9, zqa, zqb, zqc, zqd, zqe, zqf] at hc1
    have hk2 : k = (bases.getD c []).length := by omega
    subst hk2
    rw [take_all (Nat.le_refl _)]
    rw [take_all (Nat.le_refl _)] at hf
    have hO := ordL_OKLs hv hc
    have hmo := Nat.lt_of_le_of_lt (mgO_len (ordL (ordT bases c) (bases.getD c []) ++ [(bases.getD c [])])) hO.tot
    have h4 := (hv.at hc).1
    have hll := ordL_len (ordT bases c) (bases.getD c [])
    refine vc_exit ?_
    refine hK3 _ ?_
    refine vc_seq fun K12 hK12 => ?_
    refine vc_region ?_
    refine vo_move_ref rfl rfl ?_
    refine vo_move_pv rfl rfl ?_
    refine vo_move_pv rfl rfl ?_
    refine vo_index_pv (.sl none 1 []) rfl rfl rfl E23.und inf28 sz28 sd sd ?_
    simp only [Int.toNat_natCast, Int.toNat_zero, getD_ints, getD_intss, getD_bools, getD_bytes, PV.cells]
    refine vo_load_adr rfl rfl Try.underlying28 rfl ?_
    refine vo_weaken 42 rfl ?_
    refine vo_buildSlice E23 rfl rfl rfl rfl rfl ?_
    refine vo_append E23 rfl (by omega) rfl rfl rfl sd sd ?_
    refine vo_stN ?_
    try simp only [app_ints, app_intss, app_bools]
    refine vo_expose 0 (by omega) rfl ?_
    refine vo_weaken 44 rfl ?_
    refine vo_stN ?_
    refine vo_call [] Try.func109 rfl rfl rfl rfl rfl rfl rfl (merge_sat (lists := ordL (ordT bases c) (bases.getD c []) ++ [(bases.getD c [])]) (by have := hO.2; omega) (fun l hl => by have := (hO.1 l hl).1; omega) hO.tot) ?_
    rintro _ _ ⟨rfl, rfl⟩
    refine ⟨Nat.le_of_ble_eq_true rfl, ⟨rfl, rfl, rfl, rfl⟩, .inl rfl, ?_⟩
    refine vo_stN ?_
    refine vo_move rfl ?_
    refine vo_extract rfl rfl rfl ?_
    refine vo_extract rfl rfl rfl ?_
    refine vo_assign_ref rfl rfl ?_
    refine vo_assign_pv rfl rfl ?_
    refine vo_nil ?_
    refine hK12 _ ?_
    refine vc_seq fun K13 hK13 => ?_
    refine vc_seq fun K14 hK14 => ?_
    refine vc_region ?_
    refine vo_move_pv rfl rfl ?_
    refine vo_call0 Try.func110 rfl rfl rfl rfl (empty_sat (by rw [mgL_len]; have := hO.2; omega) (mgL_all (fun l hl => by have := (hO.1 l hl).1; omega))) ?_
    rintro _ _ ⟨rfl, rfl⟩
    refine ⟨rfl, rfl, .inl rfl, ?_⟩
    refine vo_not rfl rfl ?_
    refine vo_nil ?_
    refine hK14 _ ?_
    refine vc_cond rfl (fun hc3 => ?_) (fun hc3 => ?_)
    · try simp only [zq0, zq1, zq2, zq3, zq4, zq5, zq6, zq7, zq8, zq9, zqa, zqb, zqc, zqd, zqe, zqf] at hc3
      refine vc_seq fun K15 hK15 => ?_
      refine vc_region ?_
      refine vo_buildSlice E28 rfl rfl rfl rfl rfl ?_
      refine vo_assign_ref rfl rfl ?_
      refine vo_nil ?_
      refine hK15 _ ?_
      refine vc_ret ?_
      change retG _ _ _ _ _
      refine retG_one 3 hC rfl rfl rfl rfl rfl ?_
      exact ⟨_, rfl, row1_eqF (by rw [ordM_go hf, if_neg hc3]; rfl)⟩
    · try simp only [zq0, zq1, zq2, zq3, zq4, zq5, zq6, zq7, zq8, zq9, zqa, zqb, zqc, zqd, zqe, zqf] at hc3
      refine vc_skip ?_
      refine hK13 _ ?_
      refine vc_seq fun K16 hK16 => ?_
      refine vc_region ?_
      refine vo_move_pv rfl rfl ?_
      refine vo_buildSlice E28 rfl rfl rfl rfl rfl ?_
      refine vo_move_ref rfl rfl ?_
      refine vo_append E28 rfl (by omega) rfl rfl rfl sd sd ?_
      refine vo_stN ?_
      try simp only [app_ints, app_intss, app_bools]
      refine vo_assign_ref rfl rfl ?_
      refine vo_nil ?_
      refine hK16 _ ?_
      refine vc_ret ?_
      change retG _ _ _ _ _
      refine retG_one 3 hC rfl rfl rfl rfl rfl ?_
      exact ⟨_, rfl, row1_eqF (by rw [ordM_go hf, if_pos hc3]; rfl)⟩

theorem orderOf_sat {nl0 : Option Bool} {bases : List (List Int)} (hbases : bases.length < 1000000000) (hlbases : ∀ l ∈ bases, l.length < 1000000000) (hv : VB bases) : ∀ (n : Nat), n < bases.length → SatAt Try.prog 65 [.pv false (.sl nl0 1 (bases.map ints)), i64 n] [] (fun res rows => ∃ nl, res = [.ref 0] ∧ rows = [Row.own 3 1 nl true ((ordM bases n).map intP)]) := by
 intro n
 induction n using Nat.strongRecOn with
 | ind n ih =>
  intro hn
  refine orderOf_step hbases hlbases hv hn fun x h0 h1 => ?_
  obtain ⟨k, rfl⟩ := Int.eq_ofNat_of_zero_le h0
  exact ih k (by omega) (by omega)

end Go.Vl
