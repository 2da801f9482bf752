/- Rounds: which lists are such. -/
import Derived.Test.YtghlkndanpegbaaBo
import Derived.WideKeyRuns
set_option linter.unusedVariables false
set_option linter.unusedSimpArgs false
namespace Go.Proofs.Ytghlkndanpegbaa
open Go.Sx Go.RowKit Go.Sand Go.Tp

end Go.Proofs.Ytghlkndanpegbaa
namespace Go.Sx
open Go.RowKit
structure KeyT (P : Program) (k m : Nat) : Prop where
  desc : ∃ e kd i, P.underlying k = some (.array m e) ∧ P.underlying e = some (.int .i64) ∧ P.info? e = some i ∧ P.cellsOf e = 1 ∧ i.size = 1 ∧ kd = e
section
variable {P : Program} {k m : Nat}
theorem isAgg_int {e : Nat} (hu : P.underlying e = some (.int .i64)) (w : World) : (isAgg e).run P w = .ok false w := by simp [isAgg, run_underlying hu]
theorem run_part_int {e : Nat} (hu : P.underlying e = some (.int .i64)) {xs : List Int} {j : Nat} (hj : j < xs.length) (w : World) : (part e (intsA xs) (j * 1)).run P w = .ok (.int .i64 (xs.getD j 0)) w := by
  simp [part, isAgg_int hu, intsA_get hj]
theorem run_items {e : Nat} (hu : P.underlying e = some (.int .i64)) (d : Nat) {xs ys : List Int} (w : World) : ∀ (is : List Nat), (∀ j ∈ is, j < xs.length ∧ j < ys.length) →
    (Op.eqItems (d + 1) e 1 (intsA xs) (intsA ys) is).run P w = .ok (is.all fun j => decide (xs.getD j 0 = ys.getD j 0)) w
  | [], _ => rfl
  | j :: is, h => by
    have hj := h j (.head _)
    simp only [Op.eqItems, Sem.run_bind, run_part_int hu hj.1, run_part_int hu hj.2, Result.andThen_ok, run_equalIn_int w _ _ _ _ _ _ hu]
    have ih := run_items hu d w is (fun q hq => h q (.tail _ hq))
    by_cases e1 : xs.getD j 0 = ys.getD j 0
    · simp only [List.all_cons, e1, beq_self_eq_true, Bool.not_true, Bool.false_eq_true, if_false, decide_true, Bool.true_and]
      exact ih
    · have e2 := e1
      simp only [List.getD_eq_getElem?_getD] at e2
      simp [List.all_cons, e2]
theorem run_eqK (hk : KeyT P k m) {xs ys : List Int} (hx : xs.length = m) (hy : ys.length = m) (w : World) : (Op.equal k (.agg (intsA xs)) (.agg (intsA ys))).run P w = .ok (decide (xs = ys)) w := by
  obtain ⟨e, _, i, h1, h2, h3, h4, h5, _⟩ := hk.desc
  show (Op.equalIn 10000 k _ _).run P w = _
  rw [show (10000 : Nat) = 9998 + 1 + 1 from rfl, run_equalIn_array w _ _ _ h1 h3, h4, run_items h2 9998 w _ (fun j hj => by have := List.mem_range.1 hj; omega)]
  congr 1
  rw [Bool.eq_iff_iff, List.all_eq_true, decide_eq_true_iff]
  constructor
  · intro h
    refine List.ext_getElem (by omega) fun j hj1 hj2 => ?_
    have := of_decide_eq_true (h j (List.mem_range.2 (by omega)))
    simpa [List.getD, hj1, hj2] using this
  · rintro rfl j _
    exact decide_eq_true rfl
end
end Go.Sx
namespace Go.Proofs.Ytghlkndanpegbaa
open Go.Sx Go.RowKit Go.Sand Go.Tp
theorem key_84 : KeyT Try.prog 84 2 := ⟨3, 3, (Try.prog.info? 3).get (by kernel_rfl), by kernel_rfl, by kernel_rfl, (Option.some_get _).symm, by kernel_rfl, by kernel_rfl, rfl⟩
theorem eq84 (a b c d : Int) (w : World) : (binOp .eql 84 (.agg #[.int .i64 a, .int .i64 b]) (.agg #[.int .i64 c, .int .i64 d])).run Try.prog w = .ok (.bool (decide ((⟨a, b⟩ : Pr) = ⟨c, d⟩))) w := by
  have h := run_eqK key_84 (xs := [a, b]) (ys := [c, d]) rfl rfl w
  have e : decide (([a, b] : List Int) = [c, d]) = decide ((⟨a, b⟩ : Pr) = ⟨c, d⟩) := by rw [decide_eq_decide]; simp
  rw [e] at h
  have h2 : (Op.equalIn 10000 84 (.agg #[.int .i64 a, .int .i64 b]) (.agg #[.int .i64 c, .int .i64 d])).run Try.prog w = .ok (decide ((⟨a, b⟩ : Pr) = ⟨c, d⟩)) w := h
  rw [run_eql_struct, h2]
  rfl
theorem eqg84 (x y : Operand) (a b c d : Int) (w : World) : (eqGuard .eql 84 x y (.agg #[.int .i64 a, .int .i64 b]) (.agg #[.int .i64 c, .int .i64 d])).run Try.prog w = .ok () w := run_eqGuard_agg w .eql 84 x y _ _ (by kernel_rfl)

abbrev prS (l : List Pr) (k : Nat) : Pr := l.getD k default
def inP (S B : Nat) (r : Pr) : Bool := decide (0 ≤ r.p ∧ r.p < S) && decide (0 ≤ r.q ∧ r.q < B)
def gl (l : List Pr) (k : Nat) : Nat × Nat := ((prS l k).p.toNat, (prS l k).q.toNat)
def adjP (l : List Pr) (k : Nat) : Prop := if k % 2 = 0 then (prS l k).p = (prS l ((k + 1) % l.length)).p else (prS l k).q = (prS l ((k + 1) % l.length)).q
structure RdP (l : List Pr) : Prop where
  four : 4 ≤ l.length
  even : l.length % 2 = 0
  st : ∀ k, k < l.length → adjP l k ∧ ∀ q, q < k → prS l q ≠ prS l k
open Classical in
noncomputable def rdB (l : List Pr) : Bool := decide (RdP l)
open Classical in
theorem rd_y {l : List Pr} (h : RdP l) : rdB l = true := decide_eq_true h
open Classical in
theorem rd_n {l : List Pr} (h : ¬ RdP l) : rdB l = false := decide_eq_false h
open Classical in
theorem rd_of {l : List Pr} (h : rdB l = true) : RdP l := of_decide_eq_true h
noncomputable def rndI (t : Td) (l : List Pr) : Int := if 8 < l.length then 3 else if (l.any fun r => !inP t.s.length t.d.length r) = true then 4 else if rdB l = true then 0 else 1
theorem inP_at {S B : Nat} {l : List Pr} (h : (l.any fun r => !inP S B r) = false) {k : Nat} (hk : k < l.length) : (0 ≤ (prS l k).p ∧ (prS l k).p < S) ∧ 0 ≤ (prS l k).q ∧ (prS l k).q < B := by
  have h2 := List.any_eq_false.1 h (prS l k) (by simp [prS, List.getD, hk])
  simp only [inP, Bool.not_eq_true', Bool.not_eq_false, Bool.and_eq_true, decide_eq_true_eq] at h2
  exact h2
theorem gl_prL {S B : Nat} {l : List Pr} (h : (l.any fun r => !inP S B r) = false) : l = prL l.length (gl l) := by
  refine List.ext_getElem (by rw [prL_len]) fun j h1 h2 => ?_
  have h3 := inP_at h h1
  have e1 : prS l j = l[j] := by simp [prS, List.getD, h1]
  have e2 : (prL l.length (gl l))[j] = ⟨((gl l j).1 : Nat), ((gl l j).2 : Nat)⟩ := by simp [prL, mkL]
  rw [← e1, e2]
  unfold gl
  simp only [Int.toNat_of_nonneg h3.1.1, Int.toNat_of_nonneg h3.2.1]
theorem rd_rnd {S B : Nat} {l : List Pr} (h : (l.any fun r => !inP S B r) = false) (hr : RdP l) : Rnd S B l.length (gl l) := by
  have hf := hr.four
  have he := hr.even
  have hb : ∀ k, k < l.length → (gl l k).1 < S ∧ (gl l k).2 < B := fun k hk => by
    have := inP_at h hk
    unfold gl
    simp only
    omega
  refine ⟨hf, he, hb, fun m hm => ?_, fun m hm => ?_, ?_, fun a b hab hb2 e => ?_⟩
  · have := (hr.st (2 * m) (by omega)).1
    unfold adjP at this
    rw [if_pos (by omega), Nat.mod_eq_of_lt hm] at this
    unfold gl
    rw [this]
  · have := (hr.st (2 * m + 1) (by omega)).1
    unfold adjP at this
    rw [if_neg (by omega), Nat.mod_eq_of_lt hm] at this
    unfold gl
    rw [this]
  · have := (hr.st (l.length - 1) (by omega)).1
    unfold adjP at this
    rw [if_neg (by omega), show l.length - 1 + 1 = l.length by omega, Nat.mod_self] at this
    unfold gl
    rw [this]
  · have h1 := (hr.st b hb2).2 a hab
    have h2 := inP_at h (show a < l.length by omega)
    have h3 := inP_at h hb2
    unfold gl at e
    have e1 := congrArg Prod.fst e
    have e2 := congrArg Prod.snd e
    simp only at e1 e2
    refine h1 ?_
    have e3 : (prS l a).p = (prS l b).p := by omega
    have e4 : (prS l a).q = (prS l b).q := by omega
    cases hA : prS l a
    cases hB : prS l b
    rw [hA, hB] at e3 e4
    simp only at e3 e4
    rw [e3, e4]
/-- The table behind a round, how much, and the error. -/
noncomputable def aloR (t : Td) (m : List (List Int)) (l : List Pr) : List (List Int) × Int × Int :=
  if planI t m ≠ 0 then ([], 0, planI t m) else if rndI t l ≠ 0 then ([], 0, rndI t l) else (aloT t.s.length t.d.length m l.length (gl l), amt (getM m) (gl l) l.length, 0)
theorem rnd_of {t : Td} {l : List Pr} (h : ¬ rndI t l ≠ 0) : l.length ≤ 8 ∧ (l.any fun r => !inP t.s.length t.d.length r) = false ∧ RdP l := by
  have h0 := Decidable.of_not_not h
  unfold rndI at h0
  split at h0
  · cases h0
  · split at h0
    · cases h0
    · rename_i h1 h2
      split at h0
      · rename_i h3
        exact ⟨by omega, by simpa using h2, rd_of h3⟩
      · cases h0
theorem three_cells {w : World} {a : Addr} {u v x : Value} (h0 : w.cell? (a.add 0) = some u) (h1 : w.cell? (a.add 1) = some v) (h2 : w.cell? (a.add 2) = some x) : ∀ j y, [u, v, x][j]? = some y → w.cell? (a.add j) = some y := by
  intro j y h
  match j with
  | 0 => simp only [List.getElem?_cons_zero, Option.some.injEq] at h; subst h; exact h0
  | 1 => simp only [List.getElem?_cons_succ, List.getElem?_cons_zero, Option.some.injEq] at h; subst h; exact h1
  | 2 => simp only [List.getElem?_cons_succ, List.getElem?_cons_zero, Option.some.injEq] at h; subst h; exact h2
  | j + 3 => simp at h
theorem prAt' {w : World} {p : Option Addr} {l : List Pr} (h : RecsAt prR w p l) {k : Nat} (hk : k < l.length) : ∃ q, p = some q ∧ w.cell? ((q.add (k * 2)).add 0) = some (.int .i64 (prS l k).p) ∧ w.cell? ((q.add (k * 2)).add 1) = some (.int .i64 (prS l k).q) := by
  obtain ⟨q, hq, hc⟩ := h k hk
  exact ⟨q, hq, hc 0 _ rfl, hc 1 _ rfl⟩
theorem RecsAt.take' {w : World} {p : Option Addr} {l : List Pr} (h : RecsAt prR w p l) (k : Nat) (cap : Nat) (hc : 0 < cap) : RecsAt prR w (cutA p cap 0 2) (l.take k) := by
  intro j hj
  rw [List.length_take] at hj
  obtain ⟨q, hq, hcc⟩ := h j (by omega)
  refine ⟨q, ?_, ?_⟩
  · unfold cutA
    rw [if_neg (by omega), hq]
    show some (q.add (0 * 2)) = some q
    rw [Nat.zero_mul]
    unfold Addr.add
    split <;> simp_all
  · have e : (l.take k).getD j default = l.getD j default := by
      rw [List.getD_eq_getElem?_getD, List.getElem?_take, if_pos (by omega), ← List.getD_eq_getElem?_getD]
    rw [e]
    exact hcc
theorem any_pr (l : List Pr) (r : Pr) : (l.any fun x => decide (x = r)) = decide (r ∈ l) := by
  rw [Bool.eq_iff_iff, List.any_eq_true, decide_eq_true_eq]
  constructor
  · rintro ⟨x, h1, h2⟩; rw [← of_decide_eq_true h2]; exact h1
  · intro h; exact ⟨r, h, decide_eq_true rfl⟩
theorem mem_take_pr {l : List Pr} {k : Nat} (hk : k ≤ l.length) {r : Pr} : r ∈ l.take k ↔ ∃ q, q < k ∧ prS l q = r := by
  constructor
  · intro h
    obtain ⟨j, hj, e⟩ := List.getElem_of_mem h
    rw [List.length_take] at hj
    refine ⟨j, by omega, ?_⟩
    rw [← e, List.getElem_take]
    simp [prS, List.getD, show j < l.length by omega]
  · rintro ⟨q, h1, rfl⟩
    have e : prS l q = (l.take k)[q]'(by rw [List.length_take]; omega) := by rw [List.getElem_take]; simp [prS, List.getD, show q < l.length by omega]
    rw [e]
    exact List.getElem_mem _
theorem tm_m (a b : Nat) : (a : Int).tmod b = ((a % b : Nat) : Int) := rfl


set_option maxRecDepth 100000 in
theorem isStore_ok (w0 : World) (vt : Value) (t : Td) (ht : IsT w0 vt t) (i : Int) :
    Calls Try.prog 77 #[vt, .int .i64 i] w0 (Post (X := Unit) (fun _ => .bool (decide (0 ≤ i ∧ i < t.s.length))) (fun _ => True) (fun _ => []) w0) := by
  obtain ⟨p1, c1, p2, c2, p3, c3, rfl, t1, t2, t3⟩ := ht
  refine calls Try.func77 rfl (n := 14) rfl (by simp) ?_
  refine TC.seq ?_
  refine TC.region ?_
  refine TL.box rfl rfl (by decide) (fun b0 hb0 => ?_)
  refine TL.pure (PV.assign rfl) rfl (by decide) ?_
  refine TL.nil ?_
  refine TQ.thenC ?_
  refine TC.seq ?_
  refine TC.region ?_
  refine TL.pure (PV.move rfl) rfl (by decide) ?_
  refine TL.pure (PV.geq rfl rfl) rfl (by decide) ?_
  refine TL.pure (PV.move rfl) rfl (by decide) ?_
  first | refine TL.splitD 7 rfl (fun e1 => ?_) (fun e1 => ?_) | refine TL.split 7 rfl (fun e1 => ?_) (fun e1 => ?_)
  · skip
    refine TL.pure (PV.move rfl) rfl (by decide) ?_
    refine TL.pure (PV.fieldAddr rfl Tb.fo_25_0) rfl (by decide) ?_
    refine TL.pure (PV.load rfl Tb.one_22 (by repeat (first | exact List.Mem.head _ | refine List.Mem.tail _ ?_ | refine List.mem_append_right _ ?_)) rfl) rfl (by decide) ?_
    refine TL.pure (PV.len rfl Tb.sl_22) rfl (by decide) ?_
    refine TL.pure (PV.lss rfl rfl) rfl (by decide) ?_
    refine TL.pure (PV.pickT rfl rfl) rfl (by decide) ?_
    refine TL.pure (PV.assign rfl) rfl (by decide) ?_
    refine TL.nil ?_
    refine TQ.thenC ?_
    refine TC.ret ?_
    refine TQ.retE1 rfl rfl ?_
    exact ⟨(), by congr 1; rw [decide_eq_decide]; omega, trivial, List.nil_sublist _⟩
  · skip
    refine TL.skip rfl (fun k hk => by cases hk; decide) ?_
    refine TL.skip rfl (fun k hk => by cases hk; decide) ?_
    refine TL.skip rfl (fun k hk => by cases hk; decide) ?_
    refine TL.skip rfl (fun k hk => by cases hk; decide) ?_
    refine TL.skip rfl (fun k hk => by cases hk; decide) ?_
    refine TL.pure (PV.pickF rfl rfl) rfl (by decide) ?_
    refine TL.pure (PV.assign rfl) rfl (by decide) ?_
    refine TL.nil ?_
    refine TQ.thenC ?_
    refine TC.ret ?_
    refine TQ.retE1 rfl rfl ?_
    exact ⟨(), by rw [decide_eq_false (show ¬ (_ ∧ _) by omega)], trivial, List.nil_sublist _⟩

set_option maxRecDepth 100000 in
theorem isBuyer_ok (w0 : World) (vt : Value) (t : Td) (ht : IsT w0 vt t) (i : Int) :
    Calls Try.prog 96 #[vt, .int .i64 i] w0 (Post (X := Unit) (fun _ => .bool (decide (0 ≤ i ∧ i < t.d.length))) (fun _ => True) (fun _ => []) w0) := by
  obtain ⟨p1, c1, p2, c2, p3, c3, rfl, t1, t2, t3⟩ := ht
  refine calls Try.func96 rfl (n := 14) rfl (by simp) ?_
  refine TC.seq ?_
  refine TC.region ?_
  refine TL.box rfl rfl (by decide) (fun b0 hb0 => ?_)
  refine TL.pure (PV.assign rfl) rfl (by decide) ?_
  refine TL.nil ?_
  refine TQ.thenC ?_
  refine TC.seq ?_
  refine TC.region ?_
  refine TL.pure (PV.move rfl) rfl (by decide) ?_
  refine TL.pure (PV.geq rfl rfl) rfl (by decide) ?_
  refine TL.pure (PV.move rfl) rfl (by decide) ?_
  first | refine TL.splitD 7 rfl (fun e1 => ?_) (fun e1 => ?_) | refine TL.split 7 rfl (fun e1 => ?_) (fun e1 => ?_)
  · skip
    refine TL.pure (PV.move rfl) rfl (by decide) ?_
    refine TL.pure (PV.fieldAddr rfl Tb.fo_25_1) rfl (by decide) ?_
    refine TL.pure (PV.load rfl Tb.one_22 (by repeat (first | exact List.Mem.head _ | refine List.Mem.tail _ ?_ | refine List.mem_append_right _ ?_)) rfl) rfl (by decide) ?_
    refine TL.pure (PV.len rfl Tb.sl_22) rfl (by decide) ?_
    refine TL.pure (PV.lss rfl rfl) rfl (by decide) ?_
    refine TL.pure (PV.pickT rfl rfl) rfl (by decide) ?_
    refine TL.pure (PV.assign rfl) rfl (by decide) ?_
    refine TL.nil ?_
    refine TQ.thenC ?_
    refine TC.ret ?_
    refine TQ.retE1 rfl rfl ?_
    exact ⟨(), by congr 1; rw [decide_eq_decide]; omega, trivial, List.nil_sublist _⟩
  · skip
    refine TL.skip rfl (fun k hk => by cases hk; decide) ?_
    refine TL.skip rfl (fun k hk => by cases hk; decide) ?_
    refine TL.skip rfl (fun k hk => by cases hk; decide) ?_
    refine TL.skip rfl (fun k hk => by cases hk; decide) ?_
    refine TL.skip rfl (fun k hk => by cases hk; decide) ?_
    refine TL.pure (PV.pickF rfl rfl) rfl (by decide) ?_
    refine TL.pure (PV.assign rfl) rfl (by decide) ?_
    refine TL.nil ?_
    refine TQ.thenC ?_
    refine TC.ret ?_
    refine TQ.retE1 rfl rfl ?_
    exact ⟨(), by rw [decide_eq_false (show ¬ (_ ∧ _) by omega)], trivial, List.nil_sublist _⟩

set_option maxRecDepth 100000 in
theorem nowhere_ok (w0 : World) (r : Pr) (a : Addr) (t : Td) (p1 p2 p3 : Option Addr) (c1 c2 c3 : Nat) (t1 : IntsAt w0 p1 t.s) (t2 : IntsAt w0 p2 t.d) (t3 : LsAt w0 p3 t.c) (h0 : w0.cell? (a.add 0) = some (.slice p1 t.s.length c1)) (h1 : w0.cell? (a.add 1) = some (.slice p2 t.d.length c2)) (h2 : w0.cell? (a.add 2) = some (.slice p3 t.c.length c3)) :
    Calls Try.prog 95 #[.agg #[.int .i64 r.p, .int .i64 r.q], .pointer (some a)] w0 (Post (X := Unit) (fun _ => .bool (!inP t.s.length t.d.length r)) (fun _ => True) (fun _ => []) w0) := by
  refine calls Try.func95 rfl (n := 16) rfl (by simp) ?_
  refine TC.seq ?_
  refine TC.region ?_
  refine TL.box rfl rfl (by decide) (fun b0 hb0 => ?_)
  refine TL.pure (PV.assign rfl) rfl (by decide) ?_
  refine TL.nil ?_
  refine TQ.thenC ?_
  refine TC.seq ?_
  refine TC.region ?_
  refine TL.pure (PV.loadAggA rfl Tb.agg_25 rfl (three_cells h0 h1 h2)) rfl (by decide) ?_
  refine TL.pure (PV.indexArr (j := 0) rfl rfl arr_84 rfl (by decide)) rfl (by decide) ?_
  refine TL.pure (PV.load rfl Tb.one_3 (by repeat (first | exact List.Mem.head _ | refine List.Mem.tail _ ?_ | refine List.mem_append_right _ ?_)) rfl) rfl (by decide) ?_
  refine TL.call rfl Tb.gofn_77 (fun a w hs => isStore_ok w _ t (IsT.mk (t1.new hs.new) (t2.new hs.new) (t3.new hs.new)) _) rfl (by decide) (fun _ _ => ?_)
  refine TL.pure ((by first | exact PV.notD rfl | exact PV.not rfl)) rfl (by decide) ?_
  refine TL.pure (PV.move rfl) rfl (by decide) ?_
  first | refine TL.splitD 9 rfl (fun e1 => ?_) (fun e1 => ?_) | refine TL.split 9 rfl (fun e1 => ?_) (fun e1 => ?_)
  · skip
    refine TL.skip rfl (fun k hk => by cases hk; decide) ?_
    refine TL.skip rfl (fun k hk => by cases hk; decide) ?_
    refine TL.skip rfl (fun k hk => by cases hk; decide) ?_
    refine TL.skip rfl (fun k hk => by cases hk; decide) ?_
    refine TL.skip rfl (fun k hk => by cases hk; decide) ?_
    refine TL.pure (PV.pickT rfl rfl) rfl (by decide) ?_
    refine TL.pure (PV.assign rfl) rfl (by decide) ?_
    refine TL.nil ?_
    refine TQ.thenC ?_
    refine TC.ret ?_
    refine TQ.retE1 rfl rfl ?_
    exact ⟨(), by unfold inP; rw [decide_eq_false (show ¬ (0 ≤ r.p ∧ r.p < (t.s.length : Int)) from e1)]; rfl, trivial, List.nil_sublist _⟩
  · skip
    refine TL.pure (PV.loadAggA rfl Tb.agg_25 rfl (three_cells h0 h1 h2)) rfl (by decide) ?_
    refine TL.pure (PV.indexArr (j := 1) rfl rfl arr_84 rfl (by decide)) rfl (by decide) ?_
    refine TL.pure (PV.load rfl Tb.one_3 (by repeat (first | exact List.Mem.head _ | refine List.Mem.tail _ ?_ | refine List.mem_append_right _ ?_)) rfl) rfl (by decide) ?_
    refine TL.call rfl Tb.gofn_96 (fun a w hs => isBuyer_ok w _ t (IsT.mk (t1.new hs.new) (t2.new hs.new) (t3.new hs.new)) _) rfl (by decide) (fun _ _ => ?_)
    refine TL.pure ((by first | exact PV.notD rfl | exact PV.not rfl)) rfl (by decide) ?_
    refine TL.pure (PV.pickF rfl rfl) rfl (by decide) ?_
    refine TL.pure (PV.assign rfl) rfl (by decide) ?_
    refine TL.nil ?_
    refine TQ.thenC ?_
    refine TC.ret ?_
    refine TQ.retE1 rfl rfl ?_
    exact ⟨(), by unfold inP; rw [decide_eq_true (show 0 ≤ r.p ∧ r.p < (t.s.length : Int) from Decidable.of_not_not e1), Bool.true_and, ← decide_not], trivial, List.nil_sublist _⟩

set_option maxRecDepth 100000 in
theorem indexFuncP_ok (w0 : World) (pl : Option Addr) (cl : Nat) (l : List Pr) (hl : RecsAt prR w0 pl l) (hll : l.length ≤ 1000000) (f : FuncId) (caps : List Value) (φ : Pr → Bool) (hfn : goFn Try.prog f = true) (hcb : ∀ w G, New w0 w G → ∀ r : Pr, Calls Try.prog f (Value.agg #[.int .i64 r.p, .int .i64 r.q] :: caps).toArray w (Post (X := Unit) (fun _ => .bool (φ r)) (fun _ => True) (fun _ => []) w)) :
    Calls Try.prog 108 #[.slice pl l.length cl, .func (.func f) #[] caps.toArray] w0 (Post (X := Int) (fun i => .int .i64 i) (fun i => Fst φ l i) (fun _ => []) w0) := by
  refine calls Try.func108 rfl (n := 19) rfl (by simp) ?_
  refine TC.seq ?_
  refine TC.region ?_
  refine TL.pure (PV.assign rfl) rfl (by decide) ?_
  refine TL.nil ?_
  refine TQ.thenC ?_
  refine TC.seq ?_
  refine TC.seq ?_
  refine TC.region ?_
  refine TL.pure (PV.move rfl) rfl (by decide) ?_
  refine TL.pure (PV.len rfl Tb.sl_49) rfl (by decide) ?_
  refine TL.pure (PV.move rfl) rfl (by decide) ?_
  refine TL.nil ?_
  refine TQ.thenC ?_
  refine TC.block ?_
  -- live and written in the loop, not told: [4]
  refine TC.loopG [0, 1, 7] (X := Nat) (fun k => k ≤ l.length ∧ ∀ j, j < k → φ (l.getD j default) = false) (fun k => [(8, .int .i64 k)]) (fun k => l.length - k) 0 ⟨Nat.zero_le _, fun j hj => absurd hj (Nat.not_lt_zero _)⟩ (by repeat (first | exact True.intro | refine And.intro rfl ?_)) ?_
  intro k hk
  refine TC.seq ?_
  refine TC.region ?_
  refine TL.pure (PV.lss rfl rfl) rfl (by decide) ?_
  refine TL.nil ?_
  refine TQ.thenC ?_
  refine TC.seq ?_
  first | refine TC.condD rfl (fun hlt => ?_) (fun hlt => ?_) | refine TC.cond rfl (fun hlt => ?_) (fun hlt => ?_)
  · skip
    refine TC.skip ?_
    refine TQ.thenC ?_
    refine TC.seq ?_
    refine TC.block ?_
    refine TC.seq ?_
    refine TC.region ?_
    refine TL.pure (PV.move rfl) rfl (by decide) ?_
    refine TL.pure (PV.assign rfl) rfl (by decide) ?_
    refine TL.nil ?_
    refine TQ.thenC ?_
    refine TC.seq ?_
    obtain ⟨q2, hq2p, hq2a, hq2b⟩ := prAt' hl (k := k) (by omega)
    refine TC.region ?_
    refine TL.pure (PV.move rfl) rfl (by decide) ?_
    refine TL.pure (PV.move rfl) rfl (by decide) ?_
    refine TL.pure (PV.move rfl) rfl (by decide) ?_
    refine TL.pure (PV.indexA (j := k) rfl hq2p rfl Tb.elm_49 rfl (by omega)) rfl (by decide) ?_
    refine TL.pure (PV.loadAggA rfl Tb.agg_84 rfl (two_cells hq2a hq2b)) rfl (by decide) ?_
    refine TL.callF (f := f) (caps := caps) (X := Unit) (fun _ => .bool (φ (l.getD k default))) (fun _ => True) (fun _ => []) rfl rfl hfn (fun a w hs => (hcb w _ hs.new (l.getD k default)).mono fun e w' ⟨x9, h1, h2, h3⟩ => ⟨x9, h1, h2, hs.new.trans h3⟩) rfl (by decide) (fun _ _ => ?_)
    refine TL.nil ?_
    refine TQ.thenC ?_
    first | refine TC.condD rfl (fun hno => ?_) (fun hno => ?_) | refine TC.cond rfl (fun hno => ?_) (fun hno => ?_)
    · skip
      refine TC.seq ?_
      refine TC.region ?_
      refine TL.pure (PV.move rfl) rfl (by decide) ?_
      refine TL.pure (PV.assign rfl) rfl (by decide) ?_
      refine TL.nil ?_
      refine TQ.thenC ?_
      refine TC.ret ?_
      refine TQ.blkR ?_
      refine TQ.thenR ?_
      refine TQ.thenR ?_
      refine TQ.blkR ?_
      refine TQ.thenR ?_
      refine TQ.retE1 rfl rfl ?_
      first | exact ⟨k, rfl, .inr ⟨k, rfl, by omega, by simpa using hno, hk.2⟩, List.nil_sublist _⟩ | exact ⟨-1, rfl, .inl ⟨rfl, fun j hj => hk.2 j (by omega)⟩, List.nil_sublist _⟩
    · skip
      refine TC.skip ?_
      refine TQ.blkN ?_
      refine TQ.thenC ?_
      refine TC.region ?_
      refine TL.pure (PV.add rfl rfl (by omega)) rfl (by decide) ?_
      refine TL.pure (PV.move rfl) rfl (by decide) ?_
      refine TL.nil ?_
      refine TQ.thenN ?_
      refine TQ.backK (k + 1) (by repeat (first | exact True.intro | refine And.intro rfl ?_)) (by repeat (first | exact True.intro | refine And.intro rfl ?_)) (by repeat (first | exact List.Sublist.slnil | exact List.nil_sublist _ | exact List.Sublist.refl _ | refine List.Sublist.cons_cons _ ?_ | refine List.Sublist.cons _ ?_ | refine List.Sublist.trans ?_ (List.sublist_append_right _ _))) ⟨by omega, fun j hj => if e : j < k then hk.2 j e else (show k = j by omega) ▸ (by simpa using hno)⟩ (by omega)
  · skip
    refine TC.exit ?_
    refine TQ.thenE ?_
    refine TQ.thenE ?_
    refine TQ.blkS ?_
    refine TQ.thenC ?_
    refine TC.seq ?_
    refine TC.region ?_
    refine TL.pure (PV.assign rfl) rfl (by decide) ?_
    refine TL.nil ?_
    refine TQ.thenC ?_
    refine TC.ret ?_
    refine TQ.retE1 rfl rfl ?_
    first | exact ⟨k, rfl, .inr ⟨k, rfl, by omega, by simpa using hno, hk.2⟩, List.nil_sublist _⟩ | exact ⟨-1, rfl, .inl ⟨rfl, fun j hj => hk.2 j (by omega)⟩, List.nil_sublist _⟩

set_option maxRecDepth 100000 in
theorem containsFuncP_ok (w0 : World) (pl : Option Addr) (cl : Nat) (l : List Pr) (hl : RecsAt prR w0 pl l) (hll : l.length ≤ 1000000) (f : FuncId) (caps : List Value) (φ : Pr → Bool) (hfn : goFn Try.prog f = true) (hcb : ∀ w G, New w0 w G → ∀ r : Pr, Calls Try.prog f (Value.agg #[.int .i64 r.p, .int .i64 r.q] :: caps).toArray w (Post (X := Unit) (fun _ => .bool (φ r)) (fun _ => True) (fun _ => []) w)) :
    Calls Try.prog 97 #[.slice pl l.length cl, .func (.func f) #[] caps.toArray] w0 (Post (X := Unit) (fun _ => .bool (l.any φ)) (fun _ => True) (fun _ => []) w0) := by
  refine calls Try.func97 rfl (n := 9) rfl (by simp) ?_
  refine TC.seq ?_
  refine TC.region ?_
  refine TL.pure (PV.assign rfl) rfl (by decide) ?_
  refine TL.nil ?_
  refine TQ.thenC ?_
  refine TC.seq ?_
  refine TC.region ?_
  refine TL.pure (PV.move rfl) rfl (by decide) ?_
  refine TL.pure (PV.move rfl) rfl (by decide) ?_
  refine TL.call rfl Tb.gofn_108 (fun a w hs => indexFuncP_ok w _ _ l (hl.new hs.new) hll f caps φ hfn (fun w2 G2 hn2 r => hcb w2 _ (hs.new.trans hn2) r)) rfl (by decide) (fun i9 hi9 => ?_)
  refine TL.pure (PV.geq rfl rfl) rfl (by decide) ?_
  refine TL.pure (PV.assign rfl) rfl (by decide) ?_
  refine TL.nil ?_
  refine TQ.thenC ?_
  refine TC.ret ?_
  refine TQ.retE1 rfl rfl ?_
  exact ⟨(), by rw [fst_any hi9], trivial, List.nil_sublist _⟩

set_option maxRecDepth 100000 in
theorem index_ok (w0 : World) (pl : Option Addr) (cl : Nat) (l : List Pr) (hl : RecsAt prR w0 pl l) (hll : l.length ≤ 1000000) (r : Pr) :
    Calls Try.prog 111 #[.slice pl l.length cl, .agg #[.int .i64 r.p, .int .i64 r.q]] w0 (Post (X := Int) (fun i => .int .i64 i) (fun i => Fst (fun x => decide (x = r)) l i) (fun _ => []) w0) := by
  refine calls Try.func111 rfl (n := 19) rfl (by simp) ?_
  refine TC.seq ?_
  refine TC.region ?_
  refine TL.box rfl rfl (by decide) (fun b0 hb0 => ?_)
  refine TL.pure (PV.assign rfl) rfl (by decide) ?_
  refine TL.nil ?_
  refine TQ.thenC ?_
  refine TC.seq ?_
  refine TC.seq ?_
  refine TC.region ?_
  refine TL.pure (PV.move rfl) rfl (by decide) ?_
  refine TL.pure (PV.len rfl Tb.sl_49) rfl (by decide) ?_
  refine TL.pure (PV.move rfl) rfl (by decide) ?_
  refine TL.nil ?_
  refine TQ.thenC ?_
  refine TC.block ?_
  -- live and written in the loop, not told: [4]
  refine TC.loopG [0, 3, 7] (X := Nat) (fun k => k ≤ l.length ∧ ∀ j, j < k → (fun x => decide (x = r)) (l.getD j default) = false) (fun k => [(8, .int .i64 k)]) (fun k => l.length - k) 0 ⟨Nat.zero_le _, fun j hj => absurd hj (Nat.not_lt_zero _)⟩ (by repeat (first | exact True.intro | refine And.intro rfl ?_)) ?_
  intro k hk
  refine TC.seq ?_
  refine TC.region ?_
  refine TL.pure (PV.lss rfl rfl) rfl (by decide) ?_
  refine TL.nil ?_
  refine TQ.thenC ?_
  refine TC.seq ?_
  first | refine TC.condD rfl (fun hlt => ?_) (fun hlt => ?_) | refine TC.cond rfl (fun hlt => ?_) (fun hlt => ?_)
  · skip
    refine TC.skip ?_
    refine TQ.thenC ?_
    refine TC.seq ?_
    refine TC.block ?_
    refine TC.seq ?_
    refine TC.region ?_
    refine TL.pure (PV.move rfl) rfl (by decide) ?_
    refine TL.pure (PV.assign rfl) rfl (by decide) ?_
    refine TL.nil ?_
    refine TQ.thenC ?_
    refine TC.seq ?_
    obtain ⟨q2, hq2p, hq2a, hq2b⟩ := prAt' hl (k := k) (by omega)
    refine TC.any Tb.mixed rfl rfl ?_
    refine TA.op (OpOK.pure (PV.loadBox (cs := [.int .i64 r.p, .int .i64 r.q]) rfl Tb.agg_84 (by repeat (first | exact List.Mem.head _ | refine List.Mem.tail _ ?_ | refine List.mem_append_right _ ?_)) rfl) rfl (by decide)) (by decide) ?_
    refine TA.op (OpOK.pure (PV.move rfl) rfl (by decide)) (by decide) ?_
    refine TA.op (OpOK.pure (PV.move rfl) rfl (by decide)) (by decide) ?_
    refine TA.op (OpOK.pure (PV.indexA (j := k) rfl hq2p rfl Tb.elm_49 rfl (by omega)) rfl (by decide)) (by decide) ?_
    refine TA.op (OpOK.pure (PV.loadAggA rfl Tb.agg_84 rfl (two_cells hq2a hq2b)) rfl (by decide)) (by decide) ?_
    refine TA.op (OpOK.pure (PV.cmp (b := decide (r = l.getD k default)) rfl rfl (eqg84 _ _ _ _ _ _) (eq84 _ _ _ _)) rfl (by decide)) (by decide) ?_
    show TQ _ _ _ _ _
    refine TQ.thenC ?_
    first | refine TC.condD rfl (fun hno => ?_) (fun hno => ?_) | refine TC.cond rfl (fun hno => ?_) (fun hno => ?_)
    · skip
      refine TC.seq ?_
      refine TC.region ?_
      refine TL.pure (PV.move rfl) rfl (by decide) ?_
      refine TL.pure (PV.assign rfl) rfl (by decide) ?_
      refine TL.nil ?_
      refine TQ.thenC ?_
      refine TC.ret ?_
      refine TQ.blkR ?_
      refine TQ.thenR ?_
      refine TQ.thenR ?_
      refine TQ.blkR ?_
      refine TQ.thenR ?_
      refine TQ.retE1 rfl rfl ?_
      first | exact ⟨k, rfl, .inr ⟨k, rfl, by omega, decide_eq_true hno.symm, hk.2⟩, List.nil_sublist _⟩ | exact ⟨-1, rfl, .inl ⟨rfl, fun j hj => hk.2 j (by omega)⟩, List.nil_sublist _⟩
    · skip
      refine TC.skip ?_
      refine TQ.blkN ?_
      refine TQ.thenC ?_
      refine TC.region ?_
      refine TL.pure (PV.add rfl rfl (by omega)) rfl (by decide) ?_
      refine TL.pure (PV.move rfl) rfl (by decide) ?_
      refine TL.nil ?_
      refine TQ.thenN ?_
      refine TQ.backK (k + 1) (by repeat (first | exact True.intro | refine And.intro rfl ?_)) (by repeat (first | exact True.intro | refine And.intro rfl ?_)) (by repeat (first | exact List.Sublist.slnil | exact List.nil_sublist _ | exact List.Sublist.refl _ | refine List.Sublist.cons_cons _ ?_ | refine List.Sublist.cons _ ?_ | refine List.Sublist.trans ?_ (List.sublist_append_right _ _))) ⟨by omega, fun j hj => if e : j < k then hk.2 j e else (show k = j by omega) ▸ (decide_eq_false (fun h => hno h.symm))⟩ (by omega)
  · skip
    refine TC.exit ?_
    refine TQ.thenE ?_
    refine TQ.thenE ?_
    refine TQ.blkS ?_
    refine TQ.thenC ?_
    refine TC.seq ?_
    refine TC.region ?_
    refine TL.pure (PV.assign rfl) rfl (by decide) ?_
    refine TL.nil ?_
    refine TQ.thenC ?_
    refine TC.ret ?_
    refine TQ.retE1 rfl rfl ?_
    first | exact ⟨k, rfl, .inr ⟨k, rfl, by omega, decide_eq_true hno.symm, hk.2⟩, List.nil_sublist _⟩ | exact ⟨-1, rfl, .inl ⟨rfl, fun j hj => hk.2 j (by omega)⟩, List.nil_sublist _⟩

set_option maxRecDepth 100000 in
theorem contains_ok (w0 : World) (pl : Option Addr) (cl : Nat) (l : List Pr) (hl : RecsAt prR w0 pl l) (hll : l.length ≤ 1000000) (r : Pr) :
    Calls Try.prog 109 #[.slice pl l.length cl, .agg #[.int .i64 r.p, .int .i64 r.q]] w0 (Post (X := Unit) (fun _ => .bool (decide (r ∈ l))) (fun _ => True) (fun _ => []) w0) := by
  refine calls Try.func109 rfl (n := 9) rfl (by simp) ?_
  refine TC.seq ?_
  refine TC.region ?_
  refine TL.box rfl rfl (by decide) (fun b0 hb0 => ?_)
  refine TL.pure (PV.assign rfl) rfl (by decide) ?_
  refine TL.nil ?_
  refine TQ.thenC ?_
  refine TC.seq ?_
  refine TC.region ?_
  refine TL.pure (PV.move rfl) rfl (by decide) ?_
  refine TL.pure (PV.loadBox (cs := [.int .i64 r.p, .int .i64 r.q]) rfl Tb.agg_84 (by repeat (first | exact List.Mem.head _ | refine List.Mem.tail _ ?_ | refine List.mem_append_right _ ?_)) rfl) rfl (by decide) ?_
  refine TL.call rfl Tb.gofn_111 (fun a w hs => index_ok w _ _ l (hl.new hs.new) hll r) rfl (by decide) (fun i9 hi9 => ?_)
  refine TL.pure (PV.geq rfl rfl) rfl (by decide) ?_
  refine TL.pure (PV.assign rfl) rfl (by decide) ?_
  refine TL.nil ?_
  refine TQ.thenC ?_
  refine TC.ret ?_
  refine TQ.retE1 rfl rfl ?_
  exact ⟨(), by rw [← any_pr, fst_any hi9], trivial, List.nil_sublist _⟩

end Go.Proofs.Ytghlkndanpegbaa
