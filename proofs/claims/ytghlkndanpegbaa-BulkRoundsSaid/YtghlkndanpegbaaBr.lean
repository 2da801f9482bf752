/- Rounds, and tons shifted along them: contracts. -/
import Derived.Test.YtghlkndanpegbaaBq
set_option linter.unusedVariables false
set_option linter.unusedSimpArgs false
namespace Go.Proofs.Ytghlkndanpegbaa
open Go.Sx Go.RowKit Go.Sand Go.Tp

def sel (k : Nat) (r : Pr) : Int := if k % 2 = 0 then r.p else r.q
theorem sel_at (k : Nat) (r : Pr) : (#[Value.int .i64 r.p, Value.int .i64 r.q] : Array Value)[k % 2]? = some (.int .i64 (sel k r)) := by
  unfold sel
  rcases Nat.mod_two_eq_zero_or_one k with h | h <;> rw [h] <;> rfl
theorem sel_old {w : World} {a : Addr} {r : Pr} (h0 : w.cell? (a.add 0) = some (.int .i64 r.p)) (h1 : w.cell? (a.add 1) = some (.int .i64 r.q)) (k : Nat) : w.cell? (a.add (k % 2)) = some (.int .i64 (sel k r)) := by
  unfold sel
  rcases Nat.mod_two_eq_zero_or_one k with h | h <;> rw [h]
  · exact h0
  · exact h1
theorem adj_iff {l : List Pr} {k : Nat} : adjP l k ↔ sel k (prS l k) = sel k (prS l ((k + 1) % l.length)) := by
  unfold adjP sel
  split <;> exact Iff.rfl
theorem PV.indexArrA {P : Program} {n : Nat} {w0 : World} {E : Env} {G : Heap} {d : Option Nat} {ty : TypeId} {pos : String} {aft : Array Edge} {g : Option (Nat × Bool)} {x y : Operand} {q : Addr} {m e j : Nat} {i : Int} {t : Nat} (hx : evo E x = some (.pointer (some q))) (hy : evo E y = some (.int .i64 i))
    (ht : arrOf P t = some (m, e, 1)) (hi : i = (j : Int)) (hj : j < m) : PV P n w0 E G ⟨d, .indexAddr t x y, ty, pos, aft, g⟩ (.pointer (some (q.add j))) :=
  fun a w hs => by
    unfold arrOf at ht
    cases hu : P.underlying t with
    | none => simp [hu] at ht
    | some u =>
      cases u <;> simp only [hu] at ht <;> try (simp at ht; done)
      rename_i m' e'
      cases hi2 : P.info? e' with
      | none => simp [hi2] at ht
      | some inf =>
        simp [hi2] at ht
        obtain ⟨rfl, rfl, h3⟩ := ht
        subst hi
        simp only [execOp, hs.ev hx, hs.ev hy]
        simp [Instr.indexAt, run_underlying hu, asIntOf, Instr.sureAddr, sizeOf, typeInfo, hi2, h3, hj]
theorem gok_cap {h : HD} {len sz : Nat} {ys : List Value} (ho : gok h len sz ys) : len ≤ gc h := by
  obtain _ | ⟨b, cap, sp⟩ := h
  · have : len = 0 := ho.2
    omega
  · exact ho.2.2
theorem inP_wi (S B : Nat) (r : Pr) : inP S B r = (wiB r.p 0 (S - 1) && wiB r.q 0 (B - 1)) := by
  unfold inP wiB
  congr 1 <;> rw [decide_eq_decide] <;> omega
theorem vp_30 {t : Td} {m : List (List Int)} (h : VP t m) {i j : Nat} (hi : i < t.s.length) (hj : j < t.d.length) : 0 ≤ getM m i j ∧ getM m i j ≤ 30 := by
  have h1 := h.pl
  have h2 := sm_one (f := getM m i) (n := t.d.length) (fun q hq => h1.nn i q hi hq) j hj
  have h3 : sm t.d.length (getM m i) = fS t i := h1.row i hi
  have h4 : fS t i ≤ 30 := (h.s i hi).2
  have h5 := h1.nn i j hi hj
  omega
/-- Rows, as far as they are copied behind each other. -/
structure CtS (m : List (List Int)) (k : Nat) (h : HD) (rs : List RW) : Prop where
  len : rs.length = k
  go : goR rwR h rs
  ok : rwOk rs
  l : ∀ i, i < k → (rs.getD i default).l = m.getD i []
theorem cts_zero (m : List (List Int)) : CtS m 0 none [] := ⟨rfl, ⟨rfl, rfl⟩, fun r hr => (by cases hr), fun i hi => absurd hi (Nat.not_lt_zero _)⟩
theorem cts_step {m : List (List Int)} {k : Nat} {h h' ha : HD} {rs : List RW} {r : List Int} (s : CtS m k h rs) (e : r = m.getD k []) (ho : goR rwR h' (rs ++ [⟨ha, r⟩])) (h1 : goI (ha, r)) : CtS m (k + 1) h' (rs ++ [⟨ha, r⟩]) := by
  have hl := s.len
  refine ⟨by rw [List.length_append, hl]; rfl, ho, s.ok.snoc h1, fun i hi => ?_⟩
  by_cases e2 : i < k
  · rw [← s.l i e2]
    simp [List.getD, List.getElem?_append_left (show i < rs.length by omega)]
  · have : i = rs.length := by omega
    subst this
    rw [hl, ← e, ← hl]
    simp [List.getD]
theorem cts_fin {m : List (List Int)} {k : Nat} {h : HD} {rs : List RW} (s : CtS m k h rs) (hk : k = m.length) : rs.map RW.l = m := by
  have hl := s.len
  refine List.ext_getElem (by rw [List.length_map]; omega) fun j h1 h2 => ?_
  rw [List.length_map] at h1
  have h3 := s.l j (by omega)
  have e1 : rs.getD j default = rs[j] := by simp [List.getD, h1]
  have e2 : m.getD j [] = m[j] := by simp [List.getD, h2]
  rw [List.getElem_map, ← e1, ← e2, h3]
theorem amt_2 (x : Mat) (g : Nat → Nat × Nat) (m : Nat) : amt x g (2 * m + 3) = min (amt x g (2 * m + 1)) (x (g (2 * m + 1)).1 (g (2 * m + 1)).2) := by
  show (if (2 * m + 2) % 2 = 1 then _ else amt x g (2 * m + 2)) = _
  rw [if_neg (by omega)]
  show (if (2 * m + 1) % 2 = 1 then _ else _) = _
  rw [if_pos (by omega)]
theorem amt_e (x : Mat) (g : Nat → Nat × Nat) {n : Nat} (h : n % 2 = 0) : amt x g (n + 1) = amt x g n := by
  show (if n % 2 = 1 then _ else amt x g n) = _
  rw [if_neg (by omega)]


set_option maxRecDepth 100000 in
set_option maxHeartbeats 4000000 in
theorem isRound_ok (w0 : World) (pl : Option Addr) (cl : Nat) (l : List Pr) (hl : RecsAt prR w0 pl l) (hll : l.length ≤ 1000000) (hcap : l.length ≤ cl) :
    Calls Try.prog 98 #[.slice pl l.length cl] w0 (Post (X := Unit) (fun _ => .bool (rdB l)) (fun _ => True) (fun _ => []) w0) := by
  refine calls Try.func98 rfl (n := 48) rfl (by simp) ?_
  refine TC.seq ?_
  refine TC.region ?_
  refine TL.pure (PV.assign rfl) rfl (by decide) ?_
  refine TL.nil ?_
  refine TQ.thenC ?_
  refine TC.seq ?_
  refine TC.seq ?_
  refine TC.region ?_
  refine TL.pure (PV.move rfl) rfl (by decide) ?_
  refine TL.pure (PV.len rfl Tb.sl_49) rfl (by decide) ?_
  refine TL.pure (PV.lss rfl rfl) rfl (by decide) ?_
  refine TL.pure (PV.move rfl) rfl (by decide) ?_
  first | refine TL.splitD 10 rfl (fun e1 => ?_) (fun e1 => ?_) | refine TL.split 10 rfl (fun e1 => ?_) (fun e1 => ?_)
  · skip
    refine TL.skip rfl (fun k hk => by cases hk; decide) ?_
    refine TL.skip rfl (fun k hk => by cases hk; decide) ?_
    refine TL.skip rfl (fun k hk => by cases hk; decide) ?_
    refine TL.skip rfl (fun k hk => by cases hk; decide) ?_
    refine TL.pure (PV.pickT rfl rfl) rfl (by decide) ?_
    refine TL.nil ?_
    refine TQ.thenC ?_
    refine TC.condT rfl ?_
    refine TC.seq ?_
    refine TC.region ?_
    refine TL.pure (PV.assign rfl) rfl (by decide) ?_
    refine TL.nil ?_
    refine TQ.thenC ?_
    refine TC.ret ?_
    refine TQ.thenR ?_
    refine TQ.retE1 rfl rfl ?_
    exact ⟨(), by rw [rd_n (fun h => by have := h.four; omega)], trivial, List.nil_sublist _⟩
  · skip
    refine TL.pure (PV.move rfl) rfl (by decide) ?_
    refine TL.pure (PV.len rfl Tb.sl_49) rfl (by decide) ?_
    refine TL.pure (PV.rem rfl rfl (by decide) (by rw [tm2]; omega)) rfl (by decide) ?_
    refine TL.pure (PV.neq rfl rfl) rfl (by decide) ?_
    refine TL.pure (PV.pickF rfl rfl) rfl (by decide) ?_
    refine TL.nil ?_
    refine TQ.thenC ?_
    first | refine TC.condD rfl (fun e2 => ?_) (fun e2 => ?_) | refine TC.cond rfl (fun e2 => ?_) (fun e2 => ?_)
    · skip
      refine TC.seq ?_
      refine TC.region ?_
      refine TL.pure (PV.assign rfl) rfl (by decide) ?_
      refine TL.nil ?_
      refine TQ.thenC ?_
      refine TC.ret ?_
      refine TQ.thenR ?_
      refine TQ.retE1 rfl rfl ?_
      exact ⟨(), by rw [rd_n (fun h => by have := h.even; rw [tm2] at e2; omega)], trivial, List.nil_sublist _⟩
    · skip
      refine TC.skip ?_
      refine TQ.thenC ?_
      refine TC.seq ?_
      refine TC.seq ?_
      rw [tm2] at e2
      refine TC.region ?_
      refine TL.pure (PV.move rfl) rfl (by decide) ?_
      refine TL.pure (PV.len rfl Tb.sl_49) rfl (by decide) ?_
      refine TL.pure (PV.move rfl) rfl (by decide) ?_
      refine TL.nil ?_
      refine TQ.thenC ?_
      refine TC.block ?_
      -- live and written in the loop, not told: [2]
      refine TC.loopK [0, 16, 17] (X := Nat) (fun k => k ≤ l.length ∧ ∀ j, j < k → adjP l j ∧ ∀ q, q < j → prS l q ≠ prS l j) (fun k => [(18, .int .i64 k)]) (fun k => []) (fun k => l.length - k) 0 ⟨Nat.zero_le _, fun j hj => absurd hj (Nat.not_lt_zero _)⟩ (by repeat (first | exact True.intro | refine And.intro rfl ?_)) (by repeat (first | exact List.Sublist.slnil | exact List.nil_sublist _ | exact List.Sublist.refl _ | refine List.Sublist.cons_cons _ ?_ | refine List.Sublist.cons _ ?_ | refine List.Sublist.trans ?_ (List.sublist_append_right _ _))) ?_
      intro k hk
      refine TC.seq ?_
      refine TC.region ?_
      refine TL.pure (PV.lss rfl rfl) rfl (by decide) ?_
      refine TL.nil ?_
      refine TQ.thenC ?_
      refine TC.seq ?_
      first | refine TC.condD rfl (fun hlt => ?_) (fun hlt => ?_) | refine TC.cond rfl (fun hlt => ?_) (fun hlt => ?_)
      · skip
        refine TC.skip ?_
        refine TQ.thenC ?_
        refine TC.seq ?_
        refine TC.block ?_
        refine TC.seq ?_
        obtain ⟨q1, hq1p, hq1a, hq1b⟩ := prAt' hl (k := k) (by omega)
        have hmk : ((k + 1) % l.length) < l.length := Nat.mod_lt _ (by omega)
        obtain ⟨q2, hq2p, hq2a, hq2b⟩ := prAt' hl (k := ((k + 1) % l.length)) (by omega)
        refine TC.region ?_
        refine TL.pure (PV.move rfl) rfl (by decide) ?_
        refine TL.pure (PV.indexA (j := k) rfl hq1p rfl Tb.elm_49 rfl (by omega)) rfl (by decide) ?_
        refine TL.pure (PV.loadAggA rfl Tb.agg_84 rfl (two_cells hq1a hq1b)) rfl (by decide) ?_
        refine TL.alloc Tb.zero_84 rfl (by decide) (fun bA hbA => ?_)
        refine TL.pure (PV.assign rfl) rfl (by decide) ?_
        refine TL.storeAgg (vs := [.int .i64 (prS l k).p, .int .i64 (prS l k).q]) rfl rfl Tb.cells_84 (by repeat (first | exact Upd.head _ | apply Upd.tail | apply Upd.appR)) rfl rfl rfl rfl rfl ?_
        refine TL.nil ?_
        refine TQ.thenC ?_
        refine TC.seq ?_
        refine TC.region ?_
        refine TL.pure (PV.move rfl) rfl (by decide) ?_
        refine TL.pure (PV.move rfl) rfl (by decide) ?_
        refine TL.pure (PV.add rfl rfl (by omega)) rfl (by decide) ?_
        refine TL.pure (PV.move rfl) rfl (by decide) ?_
        refine TL.pure (PV.len rfl Tb.sl_49) rfl (by decide) ?_
        refine TL.pure (PV.rem (j := (l.length : Int)) rfl rfl (by omega) (by rw [show ((k : Int) + 1).tmod (l.length : Int) = (((k + 1) % l.length : Nat) : Int) from rfl]; omega)) rfl (by decide) ?_
        refine TL.pure (PV.indexA (j := ((k + 1) % l.length)) rfl hq2p rfl Tb.elm_49 rfl (by omega)) rfl (by decide) ?_
        refine TL.pure (PV.loadAggA rfl Tb.agg_84 rfl (two_cells hq2a hq2b)) rfl (by decide) ?_
        refine TL.pure (PV.move rfl) rfl (by decide) ?_
        refine TL.pure (PV.rem rfl rfl (by decide) (by rw [tm2]; omega)) rfl (by decide) ?_
        refine TL.alloc Tb.zero_84 rfl (by decide) (fun bB hbB => ?_)
        refine TL.storeAgg (vs := [.int .i64 (prS l ((k + 1) % l.length)).p, .int .i64 (prS l ((k + 1) % l.length)).q]) rfl rfl Tb.cells_84 (by repeat (first | exact Upd.head _ | apply Upd.tail | apply Upd.appR)) rfl rfl rfl rfl rfl ?_
        refine TL.pure (PV.assign rfl) rfl (by decide) ?_
        refine TL.nil ?_
        refine TQ.thenC ?_
        refine TC.seq ?_
        refine TC.any Tb.mixed rfl rfl ?_
        refine TA.op (OpOK.pure (PV.move rfl) rfl (by decide)) (by decide) ?_
        refine TA.op (OpOK.pure (PV.indexArr (j := k % 2) rfl rfl arr_84 (tm2 k) (by omega)) rfl (by decide)) (by decide) ?_
        refine TA.op (OpOK.pure (PV.loadG' (off := k % 2) rfl Tb.one_3 (by repeat (first | exact List.Mem.head _ | refine List.Mem.tail _ ?_ | refine List.mem_append_right _ ?_)) (sel_at k _)) rfl (by decide)) (by decide) ?_
        refine TA.op (OpOK.pure (PV.move rfl) rfl (by decide)) (by decide) ?_
        refine TA.op (OpOK.pure (PV.indexArr (j := k % 2) rfl rfl arr_84 (tm2 k) (by omega)) rfl (by decide)) (by decide) ?_
        refine TA.op (OpOK.pure (PV.loadG' (off := k % 2) rfl Tb.one_3 (by repeat (first | exact List.Mem.head _ | refine List.Mem.tail _ ?_ | refine List.mem_append_right _ ?_)) (sel_at k _)) rfl (by decide)) (by decide) ?_
        refine TA.op (OpOK.pure (PV.neq rfl rfl) rfl (by decide)) (by decide) ?_
        refine TA.op (OpOK.pure (PV.move rfl) rfl (by decide)) (by decide) ?_
        first | refine TA.splitD 40 rfl (fun g1 => ?_) (fun g1 => ?_) | refine TA.split 40 rfl (fun g1 => ?_) (fun g1 => ?_)
        · skip
          refine TA.op (OpOK.skip rfl) (by decide) ?_
          refine TA.op (OpOK.skip rfl) (by decide) ?_
          refine TA.op (OpOK.skip rfl) (by decide) ?_
          refine TA.op (OpOK.skip rfl) (by decide) ?_
          refine TA.op (OpOK.skip rfl) (by decide) ?_
          refine TA.op (OpOK.pure (PV.pickT rfl rfl) rfl (by decide)) (by decide) ?_
          show TQ _ _ _ _ _
          refine TQ.thenC ?_
          refine TC.condT rfl ?_
          refine TC.seq ?_
          refine TC.region ?_
          refine TL.pure (PV.assign rfl) rfl (by decide) ?_
          refine TL.nil ?_
          refine TQ.thenC ?_
          refine TC.ret ?_
          refine TQ.blkR ?_
          refine TQ.thenR ?_
          refine TQ.thenR ?_
          refine TQ.blkR ?_
          refine TQ.thenR ?_
          refine TQ.retE1 rfl rfl ?_
          exact ⟨(), by rw [rd_n (fun h => g1 (adj_iff.1 (h.st k (by omega)).1))], trivial, List.nil_sublist _⟩
        · skip
          refine TA.op (OpOK.pure (PV.move rfl) rfl (by decide)) (by decide) ?_
          refine TA.op (OpOK.pure (PV.move rfl) rfl (by decide)) (by decide) ?_
          refine TA.op (OpOK.pure (PV.sliceH (h := k) rfl rfl Tb.elm_49 rfl (by omega)) rfl (by decide)) (by decide) ?_
          refine TA.op (OpOK.pure (PV.loadBox (cs := [.int .i64 (prS l k).p, .int .i64 (prS l k).q]) rfl Tb.agg_84 (by repeat (first | exact List.Mem.head _ | refine List.Mem.tail _ ?_ | refine List.mem_append_right _ ?_)) rfl) rfl (by decide)) (by decide) ?_
          refine TA.op (OpOK.call rfl Tb.gofn_109 (fun a w hs => (by have h9 := contains_ok w (cutA pl cl 0 2) cl (l.take k) (RecsAt.take' (hl.new hs.new) k cl (by omega)) (by rw [List.length_take]; omega) (prS l k); rw [List.length_take, Nat.min_eq_left (by omega)] at h9; exact h9)) rfl (by decide)) (by decide) ?_
          refine TA.op (OpOK.pure (PV.pickF rfl rfl) rfl (by decide)) (by decide) ?_
          show TQ _ _ _ _ _
          refine TQ.thenC ?_
          first | refine TC.condD rfl (fun g2 => ?_) (fun g2 => ?_) | refine TC.cond rfl (fun g2 => ?_) (fun g2 => ?_)
          · skip
            refine TC.seq ?_
            refine TC.region ?_
            refine TL.pure (PV.assign rfl) rfl (by decide) ?_
            refine TL.nil ?_
            refine TQ.thenC ?_
            refine TC.ret ?_
            refine TQ.blkR ?_
            refine TQ.thenR ?_
            refine TQ.thenR ?_
            refine TQ.blkR ?_
            refine TQ.thenR ?_
            refine TQ.retE1 rfl rfl ?_
            exact ⟨(), by rw [rd_n (fun h => by obtain ⟨q, h1, h2⟩ := (mem_take_pr (by omega)).1 g2; exact (h.st k (by omega)).2 q h1 h2)], trivial, List.nil_sublist _⟩
          · skip
            refine TC.skip ?_
            refine TQ.blkN ?_
            refine TQ.thenC ?_
            refine TC.region ?_
            refine TL.pure (PV.add rfl rfl (by omega)) rfl (by decide) ?_
            refine TL.pure (PV.move rfl) rfl (by decide) ?_
            refine TL.nil ?_
            refine TQ.thenN ?_
            refine TQ.backK (k + 1) (by repeat (first | exact True.intro | refine And.intro rfl ?_)) (by repeat (first | exact True.intro | refine And.intro rfl ?_)) (List.nil_sublist _) ⟨by omega, fun j hj => if e : j < k then hk.2 j e else (show k = j by omega) ▸ ⟨adj_iff.2 (Decidable.of_not_not g1), fun q hq e => g2 ((mem_take_pr (by omega)).2 ⟨q, hq, e⟩)⟩⟩ (by omega)
      · skip
        refine TC.exit ?_
        refine TQ.thenE ?_
        refine TQ.thenE ?_
        refine TQ.blkS ?_
        refine TQ.thenC ?_
        refine TC.seq ?_
        refine TC.region ?_
        refine TL.pure (PV.assign rfl) rfl (by decide) ?_
        refine TL.nil ?_
        refine TQ.thenC ?_
        refine TC.ret ?_
        refine TQ.retE1 rfl rfl ?_
        exact ⟨(), by rw [rd_y ⟨by omega, by omega, fun j hj => hk.2 j (by omega)⟩], trivial, List.nil_sublist _⟩

set_option maxRecDepth 100000 in
set_option maxHeartbeats 1000000 in
theorem checkRound_ok (w0 : World) (vt : Value) (t : Td) (ht : IsT w0 vt t) (pl : Option Addr) (cl : Nat) (l : List Pr) (hl : RecsAt prR w0 pl l) (hll : l.length ≤ 1000000) (hcap : l.length ≤ cl) :
    Calls Try.prog 75 #[vt, .slice pl l.length cl] w0 (Post (X := Unit) (fun _ => .int .i64 (rndI t l)) (fun _ => True) (fun _ => []) w0) := by
  obtain ⟨p1, c1, p2, c2, p3, c3, rfl, t1, t2, t3⟩ := ht
  refine calls Try.func75 rfl (n := 16) rfl (by simp) ?_
  refine TC.seq ?_
  refine TC.region ?_
  refine TL.box rfl rfl (by decide) (fun b0 hb0 => ?_)
  refine TL.pure (PV.assign rfl) rfl (by decide) ?_
  refine TL.nil ?_
  refine TQ.thenC ?_
  refine TC.seq ?_
  refine TC.seq ?_
  refine TC.region ?_
  refine TL.pure (PV.move rfl) rfl (by decide) ?_
  refine TL.pure (PV.len rfl Tb.sl_49) rfl (by decide) ?_
  refine TL.pure (PV.gtr rfl rfl) rfl (by decide) ?_
  refine TL.nil ?_
  refine TQ.thenC ?_
  first | refine TC.condD rfl (fun a1 => ?_) (fun a1 => ?_) | refine TC.cond rfl (fun a1 => ?_) (fun a1 => ?_)
  · skip
    refine TC.seq ?_
    refine TC.region ?_
    refine TL.pure (PV.assign rfl) rfl (by decide) ?_
    refine TL.nil ?_
    refine TQ.thenC ?_
    refine TC.ret ?_
    refine TQ.thenR ?_
    refine TQ.retE1 rfl rfl ?_
    exact ⟨(), by unfold rndI; rw [if_pos (by omega)], trivial, List.nil_sublist _⟩
  · skip
    refine TC.skip ?_
    refine TQ.thenC ?_
    refine TC.seq ?_
    refine TC.region ?_
    refine TL.pure (PV.makeFunc rfl) rfl (by decide) ?_
    refine TL.pure (PV.assign rfl) rfl (by decide) ?_
    refine TL.nil ?_
    refine TQ.thenC ?_
    refine TC.seq ?_
    refine TC.seq ?_
    refine TC.region ?_
    refine TL.pure (PV.move rfl) rfl (by decide) ?_
    refine TL.pure (PV.move rfl) rfl (by decide) ?_
    refine TL.call rfl Tb.gofn_97 (fun a w hs => containsFuncP_ok w _ _ l (hl.new hs.new) hll 95 [.pointer (some ⟨b0, 0, none⟩)] (fun r => !inP t.s.length t.d.length r) Tb.gofn_95 (fun w2 G2 hn2 r => nowhere_ok w2 r ⟨b0, 0, none⟩ t p1 p2 p3 c1 c2 c3 (t1.new (hs.new.trans hn2)) (t2.new (hs.new.trans hn2)) (t3.new (hs.new.trans hn2)) ((hs.new.trans hn2).cell (by repeat (first | exact List.Mem.head _ | refine List.Mem.tail _ ?_ | refine List.mem_append_right _ ?_)) rfl) ((hs.new.trans hn2).cell (by repeat (first | exact List.Mem.head _ | refine List.Mem.tail _ ?_ | refine List.mem_append_right _ ?_)) rfl) ((hs.new.trans hn2).cell (by repeat (first | exact List.Mem.head _ | refine List.Mem.tail _ ?_ | refine List.mem_append_right _ ?_)) rfl))) rfl (by decide) (fun _ _ => ?_)
    refine TL.nil ?_
    refine TQ.thenC ?_
    first | refine TC.condD rfl (fun a2 => ?_) (fun a2 => ?_) | refine TC.cond rfl (fun a2 => ?_) (fun a2 => ?_)
    · skip
      refine TC.seq ?_
      refine TC.region ?_
      refine TL.pure (PV.assign rfl) rfl (by decide) ?_
      refine TL.nil ?_
      refine TQ.thenC ?_
      refine TC.ret ?_
      refine TQ.thenR ?_
      refine TQ.retE1 rfl rfl ?_
      exact ⟨(), by unfold rndI; rw [if_neg (by omega), if_pos a2], trivial, List.nil_sublist _⟩
    · skip
      refine TC.skip ?_
      refine TQ.thenC ?_
      refine TC.seq ?_
      refine TC.seq ?_
      refine TC.region ?_
      refine TL.pure (PV.move rfl) rfl (by decide) ?_
      refine TL.call rfl Tb.gofn_98 (fun a w hs => isRound_ok w _ _ l (hl.new hs.new) hll hcap) rfl (by decide) (fun _ _ => ?_)
      refine TL.pure ((by first | exact PV.notD rfl | exact PV.not rfl)) rfl (by decide) ?_
      refine TL.nil ?_
      refine TQ.thenC ?_
      first | refine TC.condD rfl (fun a3 => ?_) (fun a3 => ?_) | refine TC.cond rfl (fun a3 => ?_) (fun a3 => ?_)
      · skip
        refine TC.seq ?_
        refine TC.region ?_
        refine TL.pure (PV.assign rfl) rfl (by decide) ?_
        refine TL.nil ?_
        refine TQ.thenC ?_
        refine TC.ret ?_
        refine TQ.thenR ?_
        refine TQ.retE1 rfl rfl ?_
        exact ⟨(), by unfold rndI; rw [if_neg (by omega), if_neg (by rw [a2]; decide), if_neg (by simpa using a3)], trivial, List.nil_sublist _⟩
      · skip
        refine TC.skip ?_
        refine TQ.thenC ?_
        refine TC.seq ?_
        refine TC.region ?_
        refine TL.pure (PV.assign rfl) rfl (by decide) ?_
        refine TL.nil ?_
        refine TQ.thenC ?_
        refine TC.ret ?_
        refine TQ.retE1 rfl rfl ?_
        exact ⟨(), by unfold rndI; rw [if_neg (by omega), if_neg (by rw [a2]; decide), if_pos (by simpa using a3)], trivial, List.nil_sublist _⟩

set_option maxRecDepth 100000 in
set_option maxHeartbeats 2000000 in
theorem Along_ok (w0 : World) (vt : Value) (t : Td) (ht : IsT w0 vt t) (hT : SmT t) (vg : Value) (m : List (List Int)) (hg : IsG w0 vg m) (hM : SmG m) (pl : Option Addr) (cl : Nat) (l : List Pr) (hl : RecsAt prR w0 pl l) (hll : l.length ≤ 1000000) (hcap : l.length ≤ cl) :
    Calls Try.prog 43 #[vt, vg, .slice pl l.length cl] w0 (Post (X := Value × Heap) (fun y => .tuple #[y.1, .int .i64 (aloR t m l).2.1, .int .i64 (aloR t m l).2.2]) (fun y => RdG (aloR t m l).1 y) (fun y => y.2) w0) := by
  have ht0 := ht
  obtain ⟨p1, c1, p2, c2, p3, c3, rfl, t1, t2, t3⟩ := ht
  have hg0 := hg
  obtain ⟨pg, cg, rfl, g1⟩ := hg
  refine calls Try.func43 rfl (n := 33) rfl (by simp) ?_
  refine TC.seq ?_
  refine TC.region ?_
  refine TL.box rfl rfl (by decide) (fun b0 hb0 => ?_)
  refine TL.pure (PV.assign rfl) rfl (by decide) ?_
  refine TL.pure (PV.assign rfl) rfl (by decide) ?_
  refine TL.pure (PV.assign rfl) rfl (by decide) ?_
  refine TL.nil ?_
  refine TQ.thenC ?_
  refine TC.seq ?_
  refine TC.seq ?_
  refine TC.region ?_
  refine TL.pure (PV.loadBox rfl Tb.agg_25 (by repeat (first | exact List.Mem.head _ | refine List.Mem.tail _ ?_ | refine List.mem_append_right _ ?_)) rfl) rfl (by decide) ?_
  refine TL.pure (PV.move rfl) rfl (by decide) ?_
  refine TL.call rfl Tb.gofn_23 (fun a w hs => checkPlan_ok w _ t (IsT.mk (t1.new hs.new) (t2.new hs.new) (t3.new hs.new)) hT _ m (IsG.of (g1.new hs.new)) hM) rfl (by decide) (fun _ _ => ?_)
  refine TL.pure (PV.assign rfl) rfl (by decide) ?_
  refine TL.nil ?_
  refine TQ.thenC ?_
  refine TC.seq ?_
  refine TC.region ?_
  refine TL.pure (PV.move rfl) rfl (by decide) ?_
  refine TL.pure (PV.neq rfl rfl) rfl (by decide) ?_
  refine TL.nil ?_
  refine TQ.thenC ?_
  first | refine TC.condD rfl (fun a1 => ?_) (fun a1 => ?_) | refine TC.cond rfl (fun a1 => ?_) (fun a1 => ?_)
  · skip
    refine TC.seq ?_
    refine TC.region ?_
    refine TL.pure (PV.move rfl) rfl (by decide) ?_
    refine TL.pure (PV.assign rfl) rfl (by decide) ?_
    refine TL.pure (PV.assign rfl) rfl (by decide) ?_
    refine TL.pure (PV.assign rfl) rfl (by decide) ?_
    refine TL.nil ?_
    refine TQ.thenC ?_
    refine TC.ret ?_
    refine TQ.thenR ?_
    refine TQ.retE3 rfl rfl rfl rfl ?_
    have e9 : aloR t m l = ([], 0, planI t m) := if_pos a1
    exact ⟨(.slice none 0 0, []), by rw [e9], by rw [e9]; exact RdG.nil, List.nil_sublist _⟩
  · skip
    refine TC.skip ?_
    refine TQ.thenC ?_
    refine TC.seq ?_
    refine TC.seq ?_
    have hV := vp_of a1
    have hns := hV.ns
    have hnd := hV.nd
    refine TC.region ?_
    refine TL.pure (PV.loadBox rfl Tb.agg_25 (by repeat (first | exact List.Mem.head _ | refine List.Mem.tail _ ?_ | refine List.mem_append_right _ ?_)) rfl) rfl (by decide) ?_
    refine TL.pure (PV.move rfl) rfl (by decide) ?_
    refine TL.call rfl Tb.gofn_75 (fun a w hs => checkRound_ok w _ t (IsT.mk (t1.new hs.new) (t2.new hs.new) (t3.new hs.new)) _ _ l (hl.new hs.new) hll hcap) rfl (by decide) (fun _ _ => ?_)
    refine TL.pure (PV.assign rfl) rfl (by decide) ?_
    refine TL.nil ?_
    refine TQ.thenC ?_
    refine TC.seq ?_
    refine TC.region ?_
    refine TL.pure (PV.move rfl) rfl (by decide) ?_
    refine TL.pure (PV.neq rfl rfl) rfl (by decide) ?_
    refine TL.nil ?_
    refine TQ.thenC ?_
    first | refine TC.condD rfl (fun a2 => ?_) (fun a2 => ?_) | refine TC.cond rfl (fun a2 => ?_) (fun a2 => ?_)
    · skip
      refine TC.seq ?_
      refine TC.region ?_
      refine TL.pure (PV.move rfl) rfl (by decide) ?_
      refine TL.pure (PV.assign rfl) rfl (by decide) ?_
      refine TL.pure (PV.assign rfl) rfl (by decide) ?_
      refine TL.pure (PV.assign rfl) rfl (by decide) ?_
      refine TL.nil ?_
      refine TQ.thenC ?_
      refine TC.ret ?_
      refine TQ.thenR ?_
      refine TQ.retE3 rfl rfl rfl rfl ?_
      have e9 : aloR t m l = ([], 0, rndI t l) := by unfold aloR; rw [if_neg a1, if_pos a2]
      exact ⟨(.slice none 0 0, []), by rw [e9], by rw [e9]; exact RdG.nil, List.nil_sublist _⟩
    · skip
      refine TC.skip ?_
      refine TQ.thenC ?_
      refine TC.seq ?_
      obtain ⟨hr8, hri, hrd⟩ := rnd_of a2
      have hin := (rd_rnd hri hrd).bd
      refine TC.region ?_
      refine TL.pure (PV.move rfl) rfl (by decide) ?_
      refine TL.pure (PV.move rfl) rfl (by decide) ?_
      refine TL.call rfl Tb.gofn_76 (fun a w hs => along_ok w pl cl l.length (gl l) (by rw [← gl_prL hri]; exact hl.new hs.new) hr8 _ m (IsG.of (g1.new hs.new)) t.s.length t.d.length hV.g (by omega) (by omega) hin) rfl (by decide) (fun y9 hy9 => ?_)
      refine TL.pure (PV.move rfl) rfl (by decide) ?_
      refine TL.pure (PV.extract rfl rfl) rfl (by decide) ?_
      refine TL.pure (PV.extract rfl rfl) rfl (by decide) ?_
      refine TL.pure (PV.assign rfl) rfl (by decide) ?_
      refine TL.pure (PV.assign rfl) rfl (by decide) ?_
      refine TL.nil ?_
      refine TQ.thenC ?_
      refine TC.seq ?_
      refine TC.region ?_
      refine TL.pure (PV.move rfl) rfl (by decide) ?_
      refine TL.pure (PV.move rfl) rfl (by decide) ?_
      refine TL.pure (PV.assign rfl) rfl (by decide) ?_
      refine TL.pure (PV.assign rfl) rfl (by decide) ?_
      refine TL.pure (PV.assign rfl) rfl (by decide) ?_
      refine TL.nil ?_
      refine TQ.thenC ?_
      refine TC.ret ?_
      refine TQ.retE3 rfl rfl rfl rfl ?_
      have e9 : aloR t m l = (aloT t.s.length t.d.length m l.length (gl l), amt (getM m) (gl l) l.length, 0) := by unfold aloR; rw [if_neg a1, if_neg a2]
      exact ⟨y9, by rw [e9], by rw [e9]; exact hy9, List.sublist_append_left _ _⟩

set_option maxRecDepth 100000 in
set_option maxHeartbeats 4000000 in
theorem rIsRound_ok (w0 : World) (pl : Option Addr) (cl : Nat) (l : List Pr) (hl : RecsAt prR w0 pl l) (hll : l.length ≤ 1000000) :
    Calls Try.prog 74 #[.slice pl l.length cl] w0 (Post (X := Unit) (fun _ => .bool (rdB l)) (fun _ => True) (fun _ => []) w0) := by
  refine calls Try.func74 rfl (n := 55) rfl (by simp) ?_
  refine TC.seq ?_
  refine TC.region ?_
  refine TL.pure (PV.assign rfl) rfl (by decide) ?_
  refine TL.nil ?_
  refine TQ.thenC ?_
  refine TC.seq ?_
  refine TC.seq ?_
  refine TC.region ?_
  refine TL.pure (PV.move rfl) rfl (by decide) ?_
  refine TL.pure (PV.len rfl Tb.sl_49) rfl (by decide) ?_
  refine TL.pure (PV.lss rfl rfl) rfl (by decide) ?_
  refine TL.pure (PV.move rfl) rfl (by decide) ?_
  first | refine TL.splitD 9 rfl (fun e1 => ?_) (fun e1 => ?_) | refine TL.split 9 rfl (fun e1 => ?_) (fun e1 => ?_)
  · skip
    refine TL.skip rfl (fun k hk => by cases hk; decide) ?_
    refine TL.skip rfl (fun k hk => by cases hk; decide) ?_
    refine TL.skip rfl (fun k hk => by cases hk; decide) ?_
    refine TL.skip rfl (fun k hk => by cases hk; decide) ?_
    refine TL.pure (PV.pickT rfl rfl) rfl (by decide) ?_
    refine TL.nil ?_
    refine TQ.thenC ?_
    refine TC.condT rfl ?_
    refine TC.seq ?_
    refine TC.region ?_
    refine TL.pure (PV.assign rfl) rfl (by decide) ?_
    refine TL.nil ?_
    refine TQ.thenC ?_
    refine TC.ret ?_
    refine TQ.thenR ?_
    refine TQ.retE1 rfl rfl ?_
    exact ⟨(), by rw [rd_n (fun h => by have := h.four; omega)], trivial, List.nil_sublist _⟩
  · skip
    refine TL.pure (PV.move rfl) rfl (by decide) ?_
    refine TL.pure (PV.len rfl Tb.sl_49) rfl (by decide) ?_
    refine TL.pure (PV.rem rfl rfl (by decide) (by rw [tm2]; omega)) rfl (by decide) ?_
    refine TL.pure (PV.neq rfl rfl) rfl (by decide) ?_
    refine TL.pure (PV.pickF rfl rfl) rfl (by decide) ?_
    refine TL.nil ?_
    refine TQ.thenC ?_
    first | refine TC.condD rfl (fun e2 => ?_) (fun e2 => ?_) | refine TC.cond rfl (fun e2 => ?_) (fun e2 => ?_)
    · skip
      refine TC.seq ?_
      refine TC.region ?_
      refine TL.pure (PV.assign rfl) rfl (by decide) ?_
      refine TL.nil ?_
      refine TQ.thenC ?_
      refine TC.ret ?_
      refine TQ.thenR ?_
      refine TQ.retE1 rfl rfl ?_
      exact ⟨(), by rw [rd_n (fun h => by have := h.even; rw [tm2] at e2; omega)], trivial, List.nil_sublist _⟩
    · skip
      refine TC.skip ?_
      refine TQ.thenC ?_
      refine TC.seq ?_
      refine TC.seq ?_
      rw [tm2] at e2
      refine TC.region ?_
      refine TL.pure (PV.assign rfl) rfl (by decide) ?_
      refine TL.nil ?_
      refine TQ.thenC ?_
      refine TC.block ?_
      -- live and written in the loop, not told: [2]
      refine TC.loopK [0] (X := Nat) (fun k => k ≤ l.length ∧ ∀ j, j < k → adjP l j ∧ ∀ q, q < j → prS l q ≠ prS l j) (fun k => [(3, .int .i64 k)]) (fun k => []) (fun k => l.length - k) 0 ⟨Nat.zero_le _, fun j hj => absurd hj (Nat.not_lt_zero _)⟩ (by repeat (first | exact True.intro | refine And.intro rfl ?_)) (by repeat (first | exact List.Sublist.slnil | exact List.nil_sublist _ | exact List.Sublist.refl _ | refine List.Sublist.cons_cons _ ?_ | refine List.Sublist.cons _ ?_ | refine List.Sublist.trans ?_ (List.sublist_append_right _ _))) ?_
      intro k hk
      refine TC.seq ?_
      refine TC.seq ?_
      refine TC.region ?_
      refine TL.pure (PV.move rfl) rfl (by decide) ?_
      refine TL.pure (PV.move rfl) rfl (by decide) ?_
      refine TL.pure (PV.len rfl Tb.sl_49) rfl (by decide) ?_
      refine TL.pure (PV.lss rfl rfl) rfl (by decide) ?_
      refine TL.nil ?_
      refine TQ.thenC ?_
      first | refine TC.condD rfl (fun hlt => ?_) (fun hlt => ?_) | refine TC.cond rfl (fun hlt => ?_) (fun hlt => ?_)
      · skip
        refine TC.skip ?_
        refine TQ.thenC ?_
        refine TC.seq ?_
        refine TC.block ?_
        refine TC.seq ?_
        obtain ⟨q1, hq1p, hq1a, hq1b⟩ := prAt' hl (k := k) (by omega)
        have hmk : ((k + 1) % l.length) < l.length := Nat.mod_lt _ (by omega)
        obtain ⟨q2, hq2p, hq2a, hq2b⟩ := prAt' hl (k := ((k + 1) % l.length)) (by omega)
        refine TC.region ?_
        refine TL.pure (PV.move rfl) rfl (by decide) ?_
        refine TL.pure (PV.move rfl) rfl (by decide) ?_
        refine TL.pure (PV.add rfl rfl (by omega)) rfl (by decide) ?_
        refine TL.pure (PV.move rfl) rfl (by decide) ?_
        refine TL.pure (PV.len rfl Tb.sl_49) rfl (by decide) ?_
        refine TL.pure (PV.rem (j := (l.length : Int)) rfl rfl (by omega) (by rw [show ((k : Int) + 1).tmod (l.length : Int) = (((k + 1) % l.length : Nat) : Int) from rfl]; omega)) rfl (by decide) ?_
        refine TL.pure (PV.indexA (j := ((k + 1) % l.length)) rfl hq2p rfl Tb.elm_49 rfl (by omega)) rfl (by decide) ?_
        refine TL.pure (PV.loadAggA rfl Tb.agg_84 rfl (two_cells hq2a hq2b)) rfl (by decide) ?_
        refine TL.alloc Tb.zero_84 rfl (by decide) (fun bA hbA => ?_)
        refine TL.storeAgg (vs := [.int .i64 (prS l ((k + 1) % l.length)).p, .int .i64 (prS l ((k + 1) % l.length)).q]) rfl rfl Tb.cells_84 (by repeat (first | exact Upd.head _ | apply Upd.tail | apply Upd.appR)) rfl rfl rfl rfl rfl ?_
        refine TL.nil ?_
        refine TQ.thenC ?_
        refine TC.seq ?_
        refine TC.seq ?_
        refine TC.any Tb.mixed rfl rfl ?_
        refine TA.op (OpOK.pure (PV.move rfl) rfl (by decide)) (by decide) ?_
        refine TA.op (OpOK.pure (PV.move rfl) rfl (by decide)) (by decide) ?_
        refine TA.op (OpOK.pure (PV.move rfl) rfl (by decide)) (by decide) ?_
        refine TA.op (OpOK.pure (PV.rem rfl rfl (by decide) (by rw [tm2]; omega)) rfl (by decide)) (by decide) ?_
        refine TA.op (OpOK.pure (PV.indexA (j := k) rfl hq1p rfl Tb.elm_49 rfl (by omega)) rfl (by decide)) (by decide) ?_
        refine TA.op (OpOK.pure (PV.indexArrA (j := k % 2) rfl rfl arr_84 (tm2 k) (by omega)) rfl (by decide)) (by decide) ?_
        refine TA.op (OpOK.pure (PV.loadOld rfl Tb.one_3 (sel_old hq1a hq1b k)) rfl (by decide)) (by decide) ?_
        refine TA.op (OpOK.pure (PV.move rfl) rfl (by decide)) (by decide) ?_
        refine TA.op (OpOK.pure (PV.rem rfl rfl (by decide) (by rw [tm2]; omega)) rfl (by decide)) (by decide) ?_
        refine TA.op (OpOK.pure (PV.indexArr (j := k % 2) rfl rfl arr_84 (tm2 k) (by omega)) rfl (by decide)) (by decide) ?_
        refine TA.op (OpOK.pure (PV.loadG' (off := k % 2) rfl Tb.one_3 (by repeat (first | exact List.Mem.head _ | refine List.Mem.tail _ ?_ | refine List.mem_append_right _ ?_)) (sel_at k _)) rfl (by decide)) (by decide) ?_
        refine TA.op (OpOK.pure (PV.neq rfl rfl) rfl (by decide)) (by decide) ?_
        show TQ _ _ _ _ _
        refine TQ.thenC ?_
        first | refine TC.condD rfl (fun g1 => ?_) (fun g1 => ?_) | refine TC.cond rfl (fun g1 => ?_) (fun g1 => ?_)
        · skip
          refine TC.seq ?_
          refine TC.region ?_
          refine TL.pure (PV.assign rfl) rfl (by decide) ?_
          refine TL.nil ?_
          refine TQ.thenC ?_
          refine TC.ret ?_
          refine TQ.thenR ?_
          refine TQ.blkR ?_
          refine TQ.thenR ?_
          refine TQ.thenR ?_
          refine TQ.blkR ?_
          refine TQ.thenR ?_
          refine TQ.retE1 rfl rfl ?_
          exact ⟨(), by rw [rd_n (fun h => g1 (adj_iff.1 (h.st k (by omega)).1))], trivial, List.nil_sublist _⟩
        · skip
          refine TC.skip ?_
          refine TQ.thenC ?_
          refine TC.seq ?_
          refine TC.region ?_
          refine TL.pure (PV.assign rfl) rfl (by decide) ?_
          refine TL.nil ?_
          refine TQ.thenC ?_
          refine TC.block ?_
          -- live and written in the loop, not told: [2]
          refine TC.loopG [0, 3] (X := Nat) (fun q => q ≤ k ∧ ∀ p, p < q → prS l p ≠ prS l k) (fun q => [(5, .int .i64 q)]) (fun q => k - q) 0 ⟨Nat.zero_le _, fun j hj => absurd hj (Nat.not_lt_zero _)⟩ (by repeat (first | exact True.intro | refine And.intro rfl ?_)) ?_
          intro q hq9
          refine TC.seq ?_
          refine TC.seq ?_
          refine TC.region ?_
          refine TL.pure (PV.move rfl) rfl (by decide) ?_
          refine TL.pure (PV.move rfl) rfl (by decide) ?_
          refine TL.pure (PV.lss rfl rfl) rfl (by decide) ?_
          refine TL.nil ?_
          refine TQ.thenC ?_
          first | refine TC.condD rfl (fun hlt2 => ?_) (fun hlt2 => ?_) | refine TC.cond rfl (fun hlt2 => ?_) (fun hlt2 => ?_)
          · skip
            refine TC.skip ?_
            refine TQ.thenC ?_
            refine TC.seq ?_
            refine TC.block ?_
            refine TC.seq ?_
            obtain ⟨q3, hq3p, hq3a, hq3b⟩ := prAt' hl (k := q) (by omega)
            refine TC.any Tb.mixed rfl rfl ?_
            refine TA.op (OpOK.pure (PV.move rfl) rfl (by decide)) (by decide) ?_
            refine TA.op (OpOK.pure (PV.move rfl) rfl (by decide)) (by decide) ?_
            refine TA.op (OpOK.pure (PV.indexA (j := k) rfl hq1p rfl Tb.elm_49 rfl (by omega)) rfl (by decide)) (by decide) ?_
            refine TA.op (OpOK.pure (PV.loadAggA rfl Tb.agg_84 rfl (two_cells hq1a hq1b)) rfl (by decide)) (by decide) ?_
            refine TA.op (OpOK.pure (PV.move rfl) rfl (by decide)) (by decide) ?_
            refine TA.op (OpOK.pure (PV.move rfl) rfl (by decide)) (by decide) ?_
            refine TA.op (OpOK.pure (PV.indexA (j := q) rfl hq3p rfl Tb.elm_49 rfl (by omega)) rfl (by decide)) (by decide) ?_
            refine TA.op (OpOK.pure (PV.loadAggA rfl Tb.agg_84 rfl (two_cells hq3a hq3b)) rfl (by decide)) (by decide) ?_
            refine TA.op (OpOK.pure (PV.cmp (b := decide ((prS l k) = prS l q)) rfl rfl (eqg84 _ _ _ _ _ _) (eq84 _ _ _ _)) rfl (by decide)) (by decide) ?_
            show TQ _ _ _ _ _
            refine TQ.thenC ?_
            first | refine TC.condD rfl (fun g2 => ?_) (fun g2 => ?_) | refine TC.cond rfl (fun g2 => ?_) (fun g2 => ?_)
            · skip
              refine TC.seq ?_
              refine TC.region ?_
              refine TL.pure (PV.assign rfl) rfl (by decide) ?_
              refine TL.nil ?_
              refine TQ.thenC ?_
              refine TC.ret ?_
              refine TQ.blkR ?_
              refine TQ.thenR ?_
              refine TQ.thenR ?_
              refine TQ.blkR ?_
              refine TQ.blkR ?_
              refine TQ.thenR ?_
              refine TQ.thenR ?_
              refine TQ.blkR ?_
              refine TQ.thenR ?_
              refine TQ.retE1 rfl rfl ?_
              exact ⟨(), by rw [rd_n (fun h => (h.st k (by omega)).2 q (by omega) g2.symm)], trivial, List.nil_sublist _⟩
            · skip
              refine TC.skip ?_
              refine TQ.blkN ?_
              refine TQ.thenC ?_
              refine TC.region ?_
              refine TL.pure (PV.move rfl) rfl (by decide) ?_
              refine TL.pure (PV.add rfl rfl (by omega)) rfl (by decide) ?_
              refine TL.pure (PV.assign rfl) rfl (by decide) ?_
              refine TL.nil ?_
              refine TQ.thenN ?_
              refine TQ.backK (q + 1) (by repeat (first | exact True.intro | refine And.intro rfl ?_)) (by repeat (first | exact True.intro | refine And.intro rfl ?_)) (by repeat (first | exact List.Sublist.slnil | exact List.nil_sublist _ | exact List.Sublist.refl _ | refine List.Sublist.cons_cons _ ?_ | refine List.Sublist.cons _ ?_ | refine List.Sublist.trans ?_ (List.sublist_append_right _ _))) ⟨by omega, fun p hp => if e : p < q then hq9.2 p e else (show q = p by omega) ▸ (fun h => g2 h.symm)⟩ (by omega)
          · skip
            refine TC.exit ?_
            refine TQ.thenE ?_
            refine TQ.thenE ?_
            refine TQ.blkS ?_
            refine TQ.blkN ?_
            refine TQ.thenC ?_
            refine TC.region ?_
            refine TL.pure (PV.move rfl) rfl (by decide) ?_
            refine TL.pure (PV.add rfl rfl (by omega)) rfl (by decide) ?_
            refine TL.pure (PV.assign rfl) rfl (by decide) ?_
            refine TL.nil ?_
            refine TQ.thenN ?_
            refine TQ.backK (k + 1) (by repeat (first | exact True.intro | refine And.intro rfl ?_)) (by repeat (first | exact True.intro | refine And.intro rfl ?_)) (List.nil_sublist _) ⟨by omega, fun j hj => if e : j < k then hk.2 j e else (show k = j by omega) ▸ ⟨adj_iff.2 (Decidable.of_not_not g1), fun p hp => hq9.2 p (by omega)⟩⟩ (by omega)
      · skip
        refine TC.exit ?_
        refine TQ.thenE ?_
        refine TQ.thenE ?_
        refine TQ.blkS ?_
        refine TQ.thenC ?_
        refine TC.seq ?_
        refine TC.region ?_
        refine TL.pure (PV.assign rfl) rfl (by decide) ?_
        refine TL.nil ?_
        refine TQ.thenC ?_
        refine TC.ret ?_
        refine TQ.retE1 rfl rfl ?_
        exact ⟨(), by rw [rd_y ⟨by omega, by omega, fun j hj => hk.2 j (by omega)⟩], trivial, List.nil_sublist _⟩

end Go.Proofs.Ytghlkndanpegbaa
