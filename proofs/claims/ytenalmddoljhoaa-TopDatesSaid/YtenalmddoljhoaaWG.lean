/- The plain bounds, given out and compared: contracts, and a statement's own function. -/
import Derived.Test.YtenalmddoljhoaaWD
import Derived.Test.YtenalmddoljhoaaOp
set_option linter.unusedVariables false
set_option linter.unusedSimpArgs false
namespace Go.Proofs.Ytenalmddoljhoaa
open Go.Sx Go.RowKit

theorem eq88n_guard (x y : Operand) (r s : Bd) (w : World) : (eqGuard .neq 88 x y r.val s.val).run Try.prog w = .ok () w :=
  run_eqGuard_agg (w := w) .neq 88 x y _ _ (by kernel_rfl)
theorem eq88_fs : ((Try.prog.fieldsOf 88).toList.map fun f => (f.name != "_", f.type, f.offset)) = [(true, 3, 0), (true, 3, 1), (true, 3, 2)] := by kernel_rfl
theorem eq88n (r s : Bd) (w : World) : (binOp .neq 88 r.val s.val).run Try.prog w = .ok (.bool (decide (¬ r = s))) w := by
  rw [run_neq_struct, show (10000 : Nat) = 9998 + 1 + 1 from rfl, run_equalIn_agg w _ _ _ _ (by kernel_rfl) (by kernel_rfl), eqF3 w _ _ _ _ _ _ _ 3 (k := .i64) (by kernel_rfl) (by simp [isAgg, run_underlying (show Try.prog.underlying 3 = some (.int .i64) by kernel_rfl)]) eq88_fs]
  have e : (r.a = s.a ∧ r.b = s.b ∧ r.m = s.m) ↔ r = s := by
    constructor
    · obtain ⟨a, b, c⟩ := r
      obtain ⟨a', b', c'⟩ := s
      rintro ⟨h1, h2, h3⟩
      simp at h1 h2 h3
      subst h1; subst h2; subst h3; rfl
    · rintro rfl; exact ⟨rfl, rfl, rfl⟩
  simp [e]
/-- The rows of plain bounds behind a rows and b elements. -/
structure PP (N : Nat) (rs : List Bd) (a b : Nat) (x : HD × List Bd) : Prop where
  ok : goB x.1 x.2
  eq : x.2 = allP N rs a ++ rowP N rs a b
  len : x.2.length ≤ a * N + b
theorem PP.zero (N : Nat) (rs : List Bd) : PP N rs 0 0 (none, []) := ⟨⟨rfl, rfl⟩, rfl, Nat.zero_le _⟩
theorem PP.put {N : Nat} {rs : List Bd} {a b : Nat} {x : HD × List Bd} {h' : HD} (h : PP N rs a b x) (hc : a ≠ b ∧ wK N rs a b = true) (ho : goB h' (x.2 ++ [⟨a, b, wS N rs a b⟩])) : PP N rs a (b + 1) (h', x.2 ++ [⟨a, b, wS N rs a b⟩]) :=
  ⟨ho, by show x.2 ++ _ = _; rw [h.eq, rowP, if_pos hc, List.append_assoc], by show (x.2 ++ [_]).length ≤ _; rw [List.length_append]; have := h.len; simp only [List.length_cons, List.length_nil]; omega⟩
theorem PP.skip {N : Nat} {rs : List Bd} {a b : Nat} {x : HD × List Bd} (h : PP N rs a b x) (hc : ¬ (a ≠ b ∧ wK N rs a b = true)) : PP N rs a (b + 1) x :=
  ⟨h.ok, by rw [h.eq, show rowP N rs a (b + 1) = rowP N rs a b from if_neg hc], by have := h.len; omega⟩
theorem PP.row {N : Nat} {rs : List Bd} {a b : Nat} {x : HD × List Bd} (h : PP N rs a b x) (hb : b = N) : PP N rs (a + 1) 0 x :=
  ⟨h.ok, by rw [h.eq, hb]; show _ = (allP N rs a ++ rowP N rs a N) ++ []; rw [List.append_nil], by have := h.len; rw [Nat.add_mul]; omega⟩
def smI (n1 : Int) (r1 : List Bd) (n2 : Int) (r2 : List Bd) : Int := if pairI n1 r1 n2 r2 ≠ 0 then pairI n1 r1 n2 r2 else if dOk n1 r1 = true ∧ dOk n2 r2 = true then 0 else 10
def smR (n1 : Int) (r1 : List Bd) (n2 : Int) (r2 : List Bd) : Bool := decide (smI n1 r1 n2 r2 = 0 ∧ plainB n1.toNat r1 = plainB n2.toNat r2)
theorem pof_nil {n : Int} {rs : List Bd} (hv : Valid n rs) : pofI n rs [] = if dOk n rs = true then 0 else 10 := by
  have e : layI n rs [] = 0 := by have hv' : validateI n rs = 0 := hv; unfold layI; rw [if_neg (by rw [hv']; decide)]; rfl
  unfold pofI
  rw [e, if_neg (by decide)]
theorem pof_inv {n : Int} {rs : List Bd} (h : validateI n rs ≠ 0) : pofI n rs [] = validateI n rs := by
  have e : layI n rs [] = validateI n rs := if_pos h
  unfold pofI
  rw [e, if_pos h]
theorem sm_1 {n1 : Int} {r1 : List Bd} {n2 : Int} {r2 : List Bd} (h : pairI n1 r1 n2 r2 ≠ 0) : smI n1 r1 n2 r2 = pairI n1 r1 n2 r2 ∧ smR n1 r1 n2 r2 = false := by
  have e : smI n1 r1 n2 r2 = pairI n1 r1 n2 r2 := if_pos h
  exact ⟨e, decide_eq_false (fun h2 => h (e ▸ h2.1))⟩
theorem sm_2 {n1 : Int} {r1 : List Bd} {n2 : Int} {r2 : List Bd} (h : ¬ pairI n1 r1 n2 r2 ≠ 0) (h2 : ¬ (dOk n1 r1 = true ∧ dOk n2 r2 = true)) : smI n1 r1 n2 r2 = 10 ∧ smR n1 r1 n2 r2 = false := by
  have e : smI n1 r1 n2 r2 = 10 := by unfold smI; rw [if_neg h, if_neg h2]
  exact ⟨e, decide_eq_false (fun h3 => by rw [e] at h3; exact absurd h3.1 (by decide))⟩
theorem sm_3 {n1 : Int} {r1 : List Bd} {n2 : Int} {r2 : List Bd} (h : ¬ pairI n1 r1 n2 r2 ≠ 0) (h1 : dOk n1 r1 = true) (h2 : dOk n2 r2 = true) : smI n1 r1 n2 r2 = 0 ∧ smR n1 r1 n2 r2 = decide (plainB n1.toNat r1 = plainB n2.toNat r2) := by
  have e : smI n1 r1 n2 r2 = 0 := by unfold smI; rw [if_neg h, if_pos ⟨h1, h2⟩]
  exact ⟨e, by unfold smR; rw [decide_eq_decide]; exact ⟨fun h3 => h3.2, fun h3 => ⟨e, h3⟩⟩⟩
theorem sameG {w : World} {h1 h2 : HD} {l1 l2 : List Bd} (o1 : goB h1 l1) (o2 : goB h2 l2) (g1 : BdsAt w (gp h1) l1) (g2 : BdsAt w (gp h2) l2) (b1 : l1.length ≤ 100000) (b2 : l2.length ≤ 100000) :
    Calls Try.prog 45 #[gval h1 l1.length, gval h2 l2.length] w (Post (X := Unit) (fun _ => .bool (decide (l1 = l2))) (fun _ => True) (fun _ => []) w) := by
  rw [gval_eq o1, gval_eq o2]
  exact sameB_ok w _ _ _ _ l1 l2 g1 g2 b1 b2
theorem pofL_sm {n : Int} {rs : List Bd} {ls : List Int} : (pofL n rs ls).length ≤ 300 := by
  by_cases h : pofI n rs ls = 0
  · rw [pofL_is h]
    exact (plain_pb (dok_valid (pof_dok h)) n.toNat (Nat.le_refl _)).1
  · unfold pofL; rw [if_neg h]; simp
theorem pofL_no {n : Int} {rs : List Bd} {ls : List Int} (h : pofI n rs ls ≠ 0) : pofL n rs ls = [] := if_neg h
theorem allP_sm {N : Nat} {rs : List Bd} (hv : Valid (N : Int) rs) (hd : dOk (N : Int) rs = true) : (allP N rs N).length ≤ 300 := by
  have h := plain_pl hd
  have h2 := (plain_pb hv N (by simp)).1
  rw [Int.toNat_natCast] at h
  rw [← h]
  exact h2
theorem pofL_all {N : Nat} {rs : List Bd} {ls : List Int} (h : pofI (N : Int) rs ls = 0) : pofL (N : Int) rs ls = allP N rs N := by
  have h2 := plain_pl (pof_dok h)
  rw [pofL_is h]
  rw [Int.toNat_natCast] at h2 ⊢
  exact h2


set_option maxRecDepth 100000 in
set_option maxHeartbeats 1000000 in
theorem sequal_ok (w0 : World) (p1 p2 : Option Addr) (c1 c2 : Nat) (rs1 rs2 : List Bd) (h1 : BdsAt w0 p1 rs1) (h2 : BdsAt w0 p2 rs2) (hl : rs1.length ≤ 100000) (hl2 : rs2.length ≤ 100000) :
    Calls Try.prog 79 #[.slice p1 rs1.length c1, .slice p2 rs2.length c2] w0 (Post (X := Unit) (fun _ => .bool (decide (rs1 = rs2))) (fun _ => True) (fun _ => []) w0) := by
  refine calls Try.func79 rfl (n := 26) rfl (by simp) ?_
  refine TC.seq ?_
  refine TC.region ?_
  refine TL.pure (PV.assign rfl) rfl (by decide) ?_
  refine TL.nil ?_
  refine TQ.thenC ?_
  refine TC.seq ?_
  refine TC.seq ?_
  refine TC.region ?_
  refine TL.pure (PV.move rfl) rfl (by decide) ?_
  refine TL.pure (PV.len rfl Tb.sl_74) rfl (by decide) ?_
  refine TL.pure (PV.move rfl) rfl (by decide) ?_
  refine TL.pure (PV.len rfl Tb.sl_74) rfl (by decide) ?_
  refine TL.pure (PV.neq rfl rfl) rfl (by decide) ?_
  refine TL.nil ?_
  refine TQ.thenC ?_
  first | refine TC.condD rfl (fun hne => ?_) (fun hne => ?_) | refine TC.cond rfl (fun hne => ?_) (fun hne => ?_)
  · skip
    refine TC.seq ?_
    refine TC.region ?_
    refine TL.pure (PV.assign rfl) rfl (by decide) ?_
    refine TL.nil ?_
    refine TQ.thenC ?_
    refine TC.ret ?_
    refine TQ.thenR ?_
    refine TQ.retE1 rfl rfl ?_
    exact ⟨(), by rw [decide_eq_false (fun h => by subst h; omega)], trivial, List.nil_sublist _⟩
  · skip
    refine TC.skip ?_
    refine TQ.thenC ?_
    refine TC.seq ?_
    refine TC.seq ?_
    refine TC.region ?_
    refine TL.pure (PV.move rfl) rfl (by decide) ?_
    refine TL.pure (PV.len rfl Tb.sl_74) rfl (by decide) ?_
    refine TL.pure (PV.move rfl) rfl (by decide) ?_
    refine TL.nil ?_
    refine TQ.thenC ?_
    refine TC.block ?_
    -- live and written in the loop, not told: [4]
    refine TC.loopG [0, 1, 12] (X := Nat) (fun k => k ≤ rs1.length ∧ ∀ j, j < k → rs1.getD j default = rs2.getD j default) (fun k => [(13, .int .i64 k)]) (fun k => rs1.length - k) 0 ⟨Nat.zero_le _, fun j hj => by omega⟩ (by repeat (first | exact True.intro | refine And.intro rfl ?_)) ?_
    intro k hk
    refine TC.seq ?_
    refine TC.region ?_
    refine TL.pure (PV.lss rfl rfl) rfl (by decide) ?_
    refine TL.nil ?_
    refine TQ.thenC ?_
    refine TC.seq ?_
    first | refine TC.condD rfl (fun hlt => ?_) (fun hlt => ?_) | refine TC.cond rfl (fun hlt => ?_) (fun hlt => ?_)
    · skip
      refine TC.skip ?_
      refine TQ.thenC ?_
      refine TC.seq ?_
      refine TC.block ?_
      refine TC.seq ?_
      refine TC.region ?_
      refine TL.pure (PV.move rfl) rfl (by decide) ?_
      refine TL.pure (PV.assign rfl) rfl (by decide) ?_
      refine TL.nil ?_
      refine TQ.thenC ?_
      refine TC.seq ?_
      obtain ⟨q, hqp, hq⟩ := h1 k (by omega)
      obtain ⟨q2, hq2p, hq2⟩ := h2 k (by omega)
      refine TC.any Tb.mixed rfl rfl ?_
      refine TA.op (OpOK.pure (PV.move rfl) rfl (by decide)) (by decide) ?_
      refine TA.op (OpOK.pure (PV.move rfl) rfl (by decide)) (by decide) ?_
      refine TA.op (OpOK.pure (PV.indexA rfl hqp rfl Tb.elm_74 rfl (by omega)) rfl (by decide)) (by decide) ?_
      refine TA.op (OpOK.pure (PV.loadAggA rfl Tb.agg_88 rfl hq) rfl (by decide)) (by decide) ?_
      refine TA.op (OpOK.pure (PV.move rfl) rfl (by decide)) (by decide) ?_
      refine TA.op (OpOK.pure (PV.move rfl) rfl (by decide)) (by decide) ?_
      refine TA.op (OpOK.pure (PV.indexA rfl hq2p rfl Tb.elm_74 rfl (by omega)) rfl (by decide)) (by decide) ?_
      refine TA.op (OpOK.pure (PV.loadAggA rfl Tb.agg_88 rfl hq2) rfl (by decide)) (by decide) ?_
      refine TA.op (OpOK.pure (PV.cmp rfl rfl (eq88n_guard _ _ (rs1.getD k default) (rs2.getD k default)) (eq88n (rs1.getD k default) (rs2.getD k default))) rfl (by decide)) (by decide) ?_
      show TQ _ _ _ _ _
      refine TQ.thenC ?_
      first | refine TC.condD rfl (fun heq => ?_) (fun heq => ?_) | refine TC.cond rfl (fun heq => ?_) (fun heq => ?_)
      · skip
        refine TC.seq ?_
        refine TC.region ?_
        refine TL.pure (PV.assign rfl) rfl (by decide) ?_
        refine TL.nil ?_
        refine TQ.thenC ?_
        refine TC.ret ?_
        refine TQ.blkR ?_
        refine TQ.thenR ?_
        refine TQ.thenR ?_
        refine TQ.blkR ?_
        refine TQ.thenR ?_
        refine TQ.retE1 rfl rfl ?_
        exact ⟨(), by rw [decide_eq_false (fun h => heq (by rw [h]))], trivial, List.nil_sublist _⟩
      · skip
        refine TC.skip ?_
        refine TQ.blkN ?_
        refine TQ.thenC ?_
        refine TC.region ?_
        refine TL.pure (PV.add rfl rfl (by omega)) rfl (by decide) ?_
        refine TL.pure (PV.move rfl) rfl (by decide) ?_
        refine TL.nil ?_
        refine TQ.thenN ?_
        refine TQ.backK (k + 1) (by repeat (first | exact True.intro | refine And.intro rfl ?_)) (by repeat (first | exact True.intro | refine And.intro rfl ?_)) (by repeat (first | exact List.Sublist.slnil | exact List.nil_sublist _ | exact List.Sublist.refl _ | refine List.Sublist.cons_cons _ ?_ | refine List.Sublist.cons _ ?_ | refine List.Sublist.trans ?_ (List.sublist_append_right _ _))) ⟨by omega, fun j hj => by by_cases h : j = k; · { rw [h]; exact Decidable.of_not_not heq }; · { exact hk.2 j (by omega) }⟩ (by omega)
    · skip
      refine TC.exit ?_
      refine TQ.thenE ?_
      refine TQ.thenE ?_
      refine TQ.blkS ?_
      refine TQ.thenC ?_
      refine TC.seq ?_
      refine TC.region ?_
      refine TL.pure (PV.assign rfl) rfl (by decide) ?_
      refine TL.nil ?_
      refine TQ.thenC ?_
      refine TC.ret ?_
      refine TQ.retE1 rfl rfl ?_
      exact ⟨(), by rw [decide_eq_true (take_all_eq default (by omega) (fun j hj => hk.2 j (by omega)))], trivial, List.nil_sublist _⟩

theorem sequalG {w : World} {h1 h2 : HD} {l1 l2 : List Bd} (o1 : goB h1 l1) (o2 : goB h2 l2) (g1 : BdsAt w (gp h1) l1) (g2 : BdsAt w (gp h2) l2) (b1 : l1.length ≤ 100000) (b2 : l2.length ≤ 100000) :
    Calls Try.prog 79 #[gval h1 l1.length, gval h2 l2.length] w (Post (X := Unit) (fun _ => .bool (decide (l1 = l2))) (fun _ => True) (fun _ => []) w) := by
  rw [gval_eq o1, gval_eq o2]
  exact sequal_ok w _ _ _ _ l1 l2 g1 g2 b1 b2

set_option maxRecDepth 100000 in
set_option maxHeartbeats 2000000 in
theorem Plain_ok (w0 : World) (n : Int) (p : Option Addr) (cap : Nat) (rs : List Bd) (hr : BdsAt w0 p rs) :
    Calls Try.prog 42 #[cv n p rs.length cap] w0 (Post (X := HD) (fun h => .tuple #[gval h (pofL n rs []).length, .int .i64 (pofI n rs [])]) (fun h => goB h (pofL n rs [])) (fun h => gbB 42 h (pofL n rs [])) w0) := by
  refine calls Try.func42 rfl (n := 29) rfl (by simp) ?_
  refine TC.seq ?_
  refine TC.region ?_
  refine TL.box rfl rfl (by decide) (fun b0 hb0 => ?_)
  refine TL.pure (PV.assign rfl) rfl (by decide) ?_
  refine TL.pure (PV.assign rfl) rfl (by decide) ?_
  refine TL.nil ?_
  refine TQ.thenC ?_
  refine TC.seq ?_
  refine TC.region ?_
  refine TL.pure (PV.loadBox rfl Tb.agg_24 (by repeat (first | exact List.Mem.head _ | refine fB_T ?_ _ | refine List.Mem.tail _ ?_ | refine List.mem_append_right _ ?_)) rfl) rfl (by decide) ?_
  refine TL.call rfl Tb.gofn_69 (fun a w hs => plainOfG_ok w _ _ _ _ (hr.new hs.new) none 0 [] (fun j hj => absurd hj (Nat.not_lt_zero _)) (show (0 : Nat) ≤ 1000 by decide)) rfl (by decide) (fun h9 hh9 => ?_)
  refine TL.pure (PV.move rfl) rfl (by decide) ?_
  refine TL.pure (PV.extract rfl rfl) rfl (by decide) ?_
  refine TL.pure (PV.extract rfl rfl) rfl (by decide) ?_
  refine TL.pure (PV.assign rfl) rfl (by decide) ?_
  refine TL.pure (PV.assign rfl) rfl (by decide) ?_
  refine TL.nil ?_
  refine TQ.thenC ?_
  refine TC.seq ?_
  refine TC.seq ?_
  refine TC.region ?_
  refine TL.pure (PV.move rfl) rfl (by decide) ?_
  refine TL.pure (PV.neq rfl rfl) rfl (by decide) ?_
  refine TL.nil ?_
  refine TQ.thenC ?_
  first | refine TC.condD rfl (fun hbad => ?_) (fun hbad => ?_) | refine TC.cond rfl (fun hbad => ?_) (fun hbad => ?_)
  · skip
    refine TC.seq ?_
    refine TC.region ?_
    refine TL.pure (PV.move rfl) rfl (by decide) ?_
    refine TL.pure (PV.assign rfl) rfl (by decide) ?_
    refine TL.pure (PV.assign rfl) rfl (by decide) ?_
    refine TL.nil ?_
    refine TQ.thenC ?_
    refine TC.ret ?_
    refine TQ.thenR ?_
    refine TQ.retE2 rfl rfl rfl ?_
    exact ⟨none, by rw [pofL_no hbad]; rfl, by rw [pofL_no hbad]; exact ⟨rfl, rfl⟩, List.nil_sublist _⟩
  · skip
    refine TC.skip ?_
    refine TQ.thenC ?_
    refine TC.seq ?_
    refine TC.region ?_
    refine TL.pure (PV.assign rfl) rfl (by decide) ?_
    refine TL.nil ?_
    refine TQ.thenC ?_
    refine TC.seq ?_
    refine TC.seq ?_
    refine TC.region ?_
    refine TL.pure (PV.move rfl) rfl (by decide) ?_
    refine TL.pure (PV.lenG rfl hh9 Tb.sl_74) rfl (by decide) ?_
    refine TL.pure (PV.move rfl) rfl (by decide) ?_
    refine TL.nil ?_
    refine TQ.thenC ?_
    refine TC.block ?_
    refine TC.lit [(2, _), (3, _), (6, _), (17, _), (18, _), (19, _)] (by repeat (first | exact True.intro | refine And.intro rfl ?_)) ?_
    refine TC.loopK [2, 3, 17, 18] (X := Nat × HD × List Bd) (fun v => AC (pofL n rs []) v.1 v.2) (fun v => [(19, .int .i64 v.1), (6, gval v.2.1 v.2.2.length)]) (fun v => gbB 42 v.2.1 v.2.2 ++ gbB 88 h9 (pofL n rs [])) (fun v => (pofL n rs []).length - v.1) (0, none, []) (AC.zero (pofL n rs [])) (by repeat (first | exact True.intro | refine And.intro rfl ?_)) (List.sublist_append_left _ _) ?_
    intro v hv
    refine TC.lit [(2, _), (3, _), (6, _), (17, _), (18, _), (19, _)] (by repeat (first | exact True.intro | refine And.intro rfl ?_)) ?_
    refine TC.seq ?_
    refine TC.region ?_
    refine TL.pure (PV.lss rfl rfl) rfl (by decide) ?_
    refine TL.nil ?_
    refine TQ.thenC ?_
    refine TC.seq ?_
    first | refine TC.condD rfl (fun hlt => ?_) (fun hlt => ?_) | refine TC.cond rfl (fun hlt => ?_) (fun hlt => ?_)
    · skip
      refine TC.skip ?_
      refine TQ.thenC ?_
      refine TC.seq ?_
      refine TC.block ?_
      refine TC.seq ?_
      have hvl := hv.len
      have hfew : (pofL n rs []).length ≤ 300 := pofL_sm
      refine TC.region ?_
      refine TL.pure (PV.indexG (j := v.1) rfl rfl hh9 Tb.elm_74 rfl (by omega)) rfl (by decide) ?_
      refine TL.pure (PV.loadE (e := 88) (h := h9) (l := (pofL n rs [])) rfl Tb.agg_88 (fun yy hyy => by repeat (first | exact hyy | exact List.mem_append_left _ hyy | refine List.mem_append_right _ ?_ | refine List.Mem.tail _ ?_)) hh9 (by omega) rfl) rfl (by decide) ?_
      refine TL.alloc Tb.zero_88 rfl (by decide) (fun b1 hb1 => ?_)
      refine TL.storeAgg rfl rfl Tb.cells_88 (by repeat (first | exact Upd.head _ | apply Upd.tail | apply Upd.appR)) rfl rfl rfl rfl rfl ?_
      refine TL.nil ?_
      refine TQ.thenC ?_
      refine TC.region ?_
      refine TL.pure (PV.move rfl) rfl (by decide) ?_
      refine TL.pure (PV.loadBox rfl Tb.agg_88 (by repeat (first | exact List.Mem.head _ | refine fB_T ?_ _ | refine List.Mem.tail _ ?_ | refine List.mem_append_right _ ?_)) rfl) rfl (by decide) ?_
      refine TL.buildSlice (cs := ((pofL n rs []).getD v.1 default).cells.toArray) rfl Tb.sl_22 Tb.zi_42 (by decide) (fill_bd ((pofL n rs []).getD v.1 default)) (by simp) rfl (by decide) (fun b5 hb5 => ?_)
      refine TL.appendBL (h0 := v.2.1) (ys := v.2.2) (r := ((pofL n rs []).getD v.1 default)) Tb.sl_22 Tb.zi_42 rfl rfl rfl rfl (by repeat (first | exact List.Mem.head _ | refine List.Mem.tail _ ?_ | refine List.mem_append_right _ ?_)) hv.ok (by repeat (first | exact TakeH.here _ _ _ _ | apply TakeH.tail | apply TakeH.app)) (by omega) rfl (by decide) (fun h8 ho8 => ?_)
      refine TL.pure (PV.assign rfl) rfl (by decide) ?_
      refine TL.nil ?_
      refine TQ.blkN ?_
      refine TQ.thenC ?_
      refine TC.region ?_
      refine TL.pure (PV.add rfl rfl (by omega)) rfl (by decide) ?_
      refine TL.pure (PV.move rfl) rfl (by decide) ?_
      refine TL.nil ?_
      refine TQ.thenN ?_
      refine TQ.backK (v.1 + 1, h8, v.2.2 ++ [((pofL n rs []).getD v.1 default)]) (by repeat (first | exact True.intro | refine And.intro rfl ?_)) (by repeat (first | exact True.intro | refine And.intro rfl ?_)) (by repeat (first | exact List.Sublist.slnil | exact List.nil_sublist _ | exact List.Sublist.refl _ | exact List.sublist_append_left _ _ | refine List.Sublist.cons_cons _ ?_ | refine (List.append_sublist_append_left _).2 ?_ | refine List.Sublist.cons _ ?_ | refine List.Sublist.trans ?_ (List.sublist_append_right _ _))) (hv.step (by omega) ho8) (by simp only; omega)
    · skip
      refine TC.exit ?_
      refine TQ.thenE ?_
      refine TQ.thenE ?_
      refine TQ.blkS ?_
      refine TQ.thenC ?_
      refine TC.seq ?_
      have hve := hv.all (by omega)
      have hvo := hv.ok
      rw [hve] at hvo
      refine TC.region ?_
      refine TL.pure (PV.move rfl) rfl (by decide) ?_
      refine TL.pure (PV.assign rfl) rfl (by decide) ?_
      refine TL.pure (PV.assign rfl) rfl (by decide) ?_
      refine TL.nil ?_
      refine TQ.thenC ?_
      refine TC.ret ?_
      refine TQ.retE2 rfl rfl rfl ?_
      have e0 := Decidable.of_not_not hbad
      exact ⟨v.2.1, by rw [hve, e0], hvo, by rw [hve]; exact List.sublist_append_left _ _⟩

set_option maxRecDepth 100000 in
set_option maxHeartbeats 4000000 in
theorem rplain_ok (w0 : World) (N : Nat) (p : Option Addr) (cap : Nat) (rs : List Bd) (hr : BdsAt w0 p rs) (hv : Valid (N : Int) rs) (hd : dOk (N : Int) rs = true) :
    Calls Try.prog 76 #[cv (N : Int) p rs.length cap] w0 (Post (X := HD) (fun h => gval h (allP N rs N).length) (fun h => goB h (allP N rs N)) (fun h => gbB 42 h (allP N rs N)) w0) := by
  have hp := hv.pts
  refine calls Try.func76 rfl (n := 53) rfl (by simp) ?_
  refine TC.seq ?_
  refine TC.region ?_
  refine TL.box rfl rfl (by decide) (fun b0 hb0 => ?_)
  refine TL.pure (PV.assign rfl) rfl (by decide) ?_
  refine TL.nil ?_
  refine TQ.thenC ?_
  refine TC.seq ?_
  refine TC.region ?_
  refine TL.pure (PV.loadBox rfl Tb.agg_24 (by repeat (first | exact List.Mem.head _ | refine fB_T ?_ _ | refine List.Mem.tail _ ?_ | refine List.mem_append_right _ ?_)) rfl) rfl (by decide) ?_
  refine TL.pure (PV.fieldAddr rfl Tb.fo_24_0) rfl (by decide) ?_
  refine TL.pure (PV.load rfl Tb.one_3 (by repeat (first | exact List.Mem.head _ | refine fB_T ?_ _ | refine List.Mem.tail _ ?_ | refine List.mem_append_right _ ?_)) rfl) rfl (by decide) ?_
  refine TL.call rfl Tb.gofn_72 (fun a w hs => walksN_ok w N p cap rs (hr.new hs.new) hv N (by omega)) rfl (by decide) (fun xw hxw => ?_)
  refine TL.pure (PV.move rfl) rfl (by decide) ?_
  refine TL.pure (PV.extract rfl rfl) rfl (by decide) ?_
  refine TL.pure (PV.extract rfl rfl) rfl (by decide) ?_
  refine TL.pure (PV.assign rfl) rfl (by decide) ?_
  refine TL.pure (PV.assign rfl) rfl (by decide) ?_
  refine TL.nil ?_
  refine TQ.thenC ?_
  refine TC.seq ?_
  refine TC.region ?_
  refine TL.pure (PV.assign rfl) rfl (by decide) ?_
  refine TL.nil ?_
  refine TQ.thenC ?_
  refine TC.seq ?_
  refine TC.seq ?_
  refine TC.region ?_
  refine TL.pure (PV.assign rfl) rfl (by decide) ?_
  refine TL.nil ?_
  refine TQ.thenC ?_
  refine TC.block ?_
  refine TC.lit [(1, _), (2, _), (3, _), (4, _), (5, _), (6, _)] (by repeat (first | exact True.intro | refine And.intro rfl ?_)) ?_
  refine TC.loopK [1, 2, 3, 4] (X := Nat × HD × List Bd) (fun v => v.1 ≤ N ∧ PP N rs v.1 0 v.2) (fun v => [(6, .int .i64 v.1), (5, gval v.2.1 v.2.2.length)]) (fun v => gbB 42 v.2.1 v.2.2 ++ (fB xw.2.2 [(xw.1, Obj.cells (fS N xw.2.2).toArray 25 (0, 0)), (xw.2.1, Obj.cells (fK N xw.2.2).toArray 83 (0, 0))] ++ [(b0, Obj.cells #[.int .i64 N, .slice p rs.length cap] 24 (0, 0))])) (fun v => N - v.1) (0, none, []) ⟨Nat.zero_le _, PP.zero N rs⟩ (by repeat (first | exact True.intro | refine And.intro rfl ?_)) (List.Sublist.refl _) ?_
  intro v hv2
  refine TC.lit [(1, _), (2, _), (3, _), (4, _), (5, _), (6, _)] (by repeat (first | exact True.intro | refine And.intro rfl ?_)) ?_
  refine TC.seq ?_
  refine TC.seq ?_
  refine TC.region ?_
  refine TL.pure (PV.move rfl) rfl (by decide) ?_
  refine TL.pure (PV.fieldAddr rfl Tb.fo_24_0) rfl (by decide) ?_
  refine TL.pure (PV.load rfl Tb.one_3 (by repeat (first | exact List.Mem.head _ | refine fB_T ?_ _ | refine List.Mem.tail _ ?_ | refine List.mem_append_right _ ?_)) rfl) rfl (by decide) ?_
  refine TL.pure (PV.lss rfl rfl) rfl (by decide) ?_
  refine TL.nil ?_
  refine TQ.thenC ?_
  first | refine TC.condD rfl (fun hltA => ?_) (fun hltA => ?_) | refine TC.cond rfl (fun hltA => ?_) (fun hltA => ?_)
  · skip
    refine TC.skip ?_
    refine TQ.thenC ?_
    refine TC.seq ?_
    refine TC.block ?_
    refine TC.seq ?_
    refine TC.region ?_
    refine TL.pure (PV.assign rfl) rfl (by decide) ?_
    refine TL.nil ?_
    refine TQ.thenC ?_
    refine TC.block ?_
    refine TC.lit [(1, _), (2, _), (3, _), (4, _), (5, _), (6, _), (7, _)] (by repeat (first | exact True.intro | refine And.intro rfl ?_)) ?_
    refine TC.loopK [1, 2, 3, 4, 6] (X := Nat × HD × List Bd) (fun u => u.1 ≤ N ∧ PP N rs v.1 u.1 u.2) (fun u => [(7, .int .i64 u.1), (5, gval u.2.1 u.2.2.length)]) (fun u => gbB 42 u.2.1 u.2.2 ++ (fB xw.2.2 [(xw.1, Obj.cells (fS N xw.2.2).toArray 25 (0, 0)), (xw.2.1, Obj.cells (fK N xw.2.2).toArray 83 (0, 0))] ++ [(b0, Obj.cells #[.int .i64 N, .slice p rs.length cap] 24 (0, 0))])) (fun u => N - u.1) (0, v.2) ⟨Nat.zero_le _, hv2.2⟩ (by repeat (first | exact True.intro | refine And.intro rfl ?_)) (List.Sublist.refl _) ?_
    intro u hu
    refine TC.lit [(1, _), (2, _), (3, _), (4, _), (5, _), (6, _), (7, _)] (by repeat (first | exact True.intro | refine And.intro rfl ?_)) ?_
    refine TC.seq ?_
    refine TC.seq ?_
    refine TC.region ?_
    refine TL.pure (PV.move rfl) rfl (by decide) ?_
    refine TL.pure (PV.fieldAddr rfl Tb.fo_24_0) rfl (by decide) ?_
    refine TL.pure (PV.load rfl Tb.one_3 (by repeat (first | exact List.Mem.head _ | refine fB_T ?_ _ | refine List.Mem.tail _ ?_ | refine List.mem_append_right _ ?_)) rfl) rfl (by decide) ?_
    refine TL.pure (PV.lss rfl rfl) rfl (by decide) ?_
    refine TL.nil ?_
    refine TQ.thenC ?_
    first | refine TC.condD rfl (fun hltB => ?_) (fun hltB => ?_) | refine TC.cond rfl (fun hltB => ?_) (fun hltB => ?_)
    · skip
      refine TC.skip ?_
      refine TQ.thenC ?_
      refine TC.seq ?_
      refine TC.block ?_
      refine TC.seq ?_
      have hml := Nat.mul_le_mul (show v.1 ≤ 8 by omega) (show N ≤ 8 by omega)
      have hlen := hu.2.len
      have hul : u.2.2.length ≤ 1000 := by omega
      refine TC.region ?_
      refine TL.pure (PV.move rfl) rfl (by decide) ?_
      refine TL.pure (PV.move rfl) rfl (by decide) ?_
      refine TL.pure (PV.neq rfl rfl) rfl (by decide) ?_
      refine TL.pure (PV.move rfl) rfl (by decide) ?_
      first | refine TL.splitD 30 rfl (fun hne => ?_) (fun hne => ?_) | refine TL.split 30 rfl (fun hne => ?_) (fun hne => ?_)
      · skip
        refine TL.pure (PV.move rfl) rfl (by decide) ?_
        refine TL.pure (PV.move rfl) rfl (by decide) ?_
        refine TL.pure (PV.index1 (j := v.1) rfl rfl Tb.elm_80 rfl (by omega)) rfl (by decide) ?_
        refine TL.pure (PV.loadG' rfl Tb.one_83 (by repeat (first | exact List.mem_append_left _ (fB_T (.tail _ (.head _)) _) | refine List.Mem.tail _ ?_ | refine List.mem_append_right _ ?_)) (hxw.getK (a := v.1) (by omega))) rfl (by decide) ?_
        refine TL.pure (PV.move rfl) rfl (by decide) ?_
        refine TL.pure (PV.indexG (j := u.1) rfl rfl (hxw.okK _ (hxw.mem (a := v.1) (by omega))) Tb.elm_83 rfl (by omega)) rfl (by decide) ?_
        refine TL.pure (PV.loadG' rfl Tb.one_4 (by repeat (first | exact List.mem_append_left _ (fB_K (hxw.mem (a := v.1) (by omega)) _ (mem_gblk (hxw.okK _ (hxw.mem (a := v.1) (by omega))) (by omega))) | refine List.Mem.tail _ ?_ | refine List.mem_append_right _ ?_)) (bval_at (xs := (walkN N rs (v.1) N).kn) (by rw [(hxw.at_ (v.1) (by omega)).2]) (by rw [(WOk.walk N rs (v.1) N).kl]; omega))) rfl (by decide) ?_
        refine TL.pure (PV.pickT rfl rfl) rfl (by decide) ?_
        refine TL.nil ?_
        refine TQ.thenC ?_
        first | refine TC.condD rfl (fun hk => ?_) (fun hk => ?_) | refine TC.cond rfl (fun hk => ?_) (fun hk => ?_)
        · skip
          refine TC.region ?_
          refine TL.pure (PV.move rfl) rfl (by decide) ?_
          refine TL.pure (PV.move rfl) rfl (by decide) ?_
          refine TL.pure (PV.move rfl) rfl (by decide) ?_
          refine TL.pure (PV.move rfl) rfl (by decide) ?_
          refine TL.pure (PV.move rfl) rfl (by decide) ?_
          refine TL.pure (PV.index1 (j := v.1) rfl rfl Tb.elm_51 rfl (by omega)) rfl (by decide) ?_
          refine TL.pure (PV.loadG' rfl Tb.one_25 (by repeat (first | exact List.mem_append_left _ (fB_T (.head _) _) | refine List.Mem.tail _ ?_ | refine List.mem_append_right _ ?_)) (hxw.getS (a := v.1) (by omega))) rfl (by decide) ?_
          refine TL.pure (PV.move rfl) rfl (by decide) ?_
          refine TL.pure (PV.indexG (j := u.1) rfl rfl (hxw.okS _ (hxw.mem (a := v.1) (by omega))) Tb.elm_25 rfl (by omega)) rfl (by decide) ?_
          refine TL.pure (PV.loadG' rfl Tb.one_3 (by repeat (first | exact List.mem_append_left _ (fB_S (hxw.mem (a := v.1) (by omega)) _ (mem_gblk (hxw.okS _ (hxw.mem (a := v.1) (by omega))) (by omega))) | refine List.Mem.tail _ ?_ | refine List.mem_append_right _ ?_)) (ival_at (xs := (walkN N rs (v.1) N).sm) (by rw [(hxw.at_ (v.1) (by omega)).1]) (by rw [(WOk.walk N rs (v.1) N).sl]; omega))) rfl (by decide) ?_
          refine TL.pure (PV.build (cs := (Bd.mk (v.1 : Int) (u.1 : Int) (wS N rs v.1 u.1)).cells.toArray) rfl Tb.zero_42 Tb.pl_42 rfl) rfl (by decide) ?_
          refine TL.buildSlice (cs := (Bd.mk (v.1 : Int) (u.1 : Int) (wS N rs v.1 u.1)).cells.toArray) rfl Tb.sl_22 Tb.zi_42 (by decide) (fill_bd (Bd.mk (v.1 : Int) (u.1 : Int) (wS N rs v.1 u.1))) (by simp) rfl (by decide) (fun b5 hb5 => ?_)
          refine TL.appendBL (h0 := u.2.1) (ys := u.2.2) (r := (Bd.mk (v.1 : Int) (u.1 : Int) (wS N rs v.1 u.1))) Tb.sl_22 Tb.zi_42 rfl rfl rfl rfl (by repeat (first | exact List.Mem.head _ | refine List.Mem.tail _ ?_ | refine List.mem_append_right _ ?_)) hu.2.ok (by repeat (first | exact TakeH.here _ _ _ _ | apply TakeH.tail | apply TakeH.app)) (by omega) rfl (by decide) (fun h9 ho9 => ?_)
          refine TL.pure (PV.assign rfl) rfl (by decide) ?_
          refine TL.nil ?_
          refine TQ.blkN ?_
          refine TQ.thenC ?_
          refine TC.region ?_
          refine TL.pure (PV.move rfl) rfl (by decide) ?_
          refine TL.pure (PV.add rfl rfl (by omega)) rfl (by decide) ?_
          refine TL.pure (PV.assign rfl) rfl (by decide) ?_
          refine TL.nil ?_
          refine TQ.thenN ?_
          refine TQ.backK (u.1 + 1, _, _) (by repeat (first | exact True.intro | refine And.intro rfl ?_)) (by repeat (first | exact True.intro | refine And.intro rfl ?_)) (by repeat (first | exact List.Sublist.slnil | exact List.nil_sublist _ | exact List.Sublist.refl _ | exact List.sublist_append_left _ _ | refine List.Sublist.cons_cons _ ?_ | refine (List.append_sublist_append_left _).2 ?_ | refine List.Sublist.cons _ ?_ | refine List.Sublist.trans ?_ (List.sublist_append_right _ _))) (by first | (refine ⟨?_, hu.2.put ⟨?_, hk⟩ ho9⟩ <;> (try simp only) <;> omega) | (refine ⟨?_, hu.2.skip (fun h => absurd (hk.symm.trans h.2) Bool.false_ne_true)⟩; simp only; omega) | (refine ⟨?_, hu.2.skip (fun h => hne h.1)⟩; simp only; omega) | (refine ⟨?_, hu.2.skip (fun h => hne (fun e => h.1 (Int.ofNat.inj e)))⟩; simp only; omega)) (by simp only; omega)
        · skip
          refine TC.skip ?_
          refine TQ.blkN ?_
          refine TQ.thenC ?_
          refine TC.region ?_
          refine TL.pure (PV.move rfl) rfl (by decide) ?_
          refine TL.pure (PV.add rfl rfl (by omega)) rfl (by decide) ?_
          refine TL.pure (PV.assign rfl) rfl (by decide) ?_
          refine TL.nil ?_
          refine TQ.thenN ?_
          refine TQ.backK (u.1 + 1, _, _) (by repeat (first | exact True.intro | refine And.intro rfl ?_)) (by repeat (first | exact True.intro | refine And.intro rfl ?_)) (by repeat (first | exact List.Sublist.slnil | exact List.nil_sublist _ | exact List.Sublist.refl _ | exact List.sublist_append_left _ _ | refine List.Sublist.cons_cons _ ?_ | refine (List.append_sublist_append_left _).2 ?_ | refine List.Sublist.cons _ ?_ | refine List.Sublist.trans ?_ (List.sublist_append_right _ _))) (by first | (refine ⟨?_, hu.2.put ⟨?_, hk⟩ ho9⟩ <;> (try simp only) <;> omega) | (refine ⟨?_, hu.2.skip (fun h => absurd (hk.symm.trans h.2) Bool.false_ne_true)⟩; simp only; omega) | (refine ⟨?_, hu.2.skip (fun h => hne h.1)⟩; simp only; omega) | (refine ⟨?_, hu.2.skip (fun h => hne (fun e => h.1 (Int.ofNat.inj e)))⟩; simp only; omega)) (by simp only; omega)
      · skip
        refine TL.skip rfl (fun k hk => by cases hk; decide) ?_
        refine TL.skip rfl (fun k hk => by cases hk; decide) ?_
        refine TL.skip rfl (fun k hk => by cases hk; decide) ?_
        refine TL.skip rfl (fun k hk => by cases hk; decide) ?_
        refine TL.skip rfl (fun k hk => by cases hk; decide) ?_
        refine TL.skip rfl (fun k hk => by cases hk; decide) ?_
        refine TL.skip rfl (fun k hk => by cases hk; decide) ?_
        refine TL.pure (PV.pickF rfl rfl) rfl (by decide) ?_
        refine TL.nil ?_
        refine TQ.thenC ?_
        refine TC.condF rfl ?_
        refine TC.skip ?_
        refine TQ.blkN ?_
        refine TQ.thenC ?_
        refine TC.region ?_
        refine TL.pure (PV.move rfl) rfl (by decide) ?_
        refine TL.pure (PV.add rfl rfl (by omega)) rfl (by decide) ?_
        refine TL.pure (PV.assign rfl) rfl (by decide) ?_
        refine TL.nil ?_
        refine TQ.thenN ?_
        refine TQ.backK (u.1 + 1, _, _) (by repeat (first | exact True.intro | refine And.intro rfl ?_)) (by repeat (first | exact True.intro | refine And.intro rfl ?_)) (by repeat (first | exact List.Sublist.slnil | exact List.nil_sublist _ | exact List.Sublist.refl _ | exact List.sublist_append_left _ _ | refine List.Sublist.cons_cons _ ?_ | refine (List.append_sublist_append_left _).2 ?_ | refine List.Sublist.cons _ ?_ | refine List.Sublist.trans ?_ (List.sublist_append_right _ _))) (by first | (refine ⟨?_, hu.2.put ⟨?_, hk⟩ ho9⟩ <;> (try simp only) <;> omega) | (refine ⟨?_, hu.2.skip (fun h => absurd (hk.symm.trans h.2) Bool.false_ne_true)⟩; simp only; omega) | (refine ⟨?_, hu.2.skip (fun h => hne h.1)⟩; simp only; omega) | (refine ⟨?_, hu.2.skip (fun h => hne (fun e => h.1 (Int.ofNat.inj e)))⟩; simp only; omega)) (by simp only; omega)
    · skip
      refine TC.exit ?_
      refine TQ.thenE ?_
      refine TQ.thenE ?_
      refine TQ.blkS ?_
      refine TQ.blkN ?_
      refine TQ.thenC ?_
      refine TC.region ?_
      refine TL.pure (PV.move rfl) rfl (by decide) ?_
      refine TL.pure (PV.add rfl rfl (by omega)) rfl (by decide) ?_
      refine TL.pure (PV.assign rfl) rfl (by decide) ?_
      refine TL.nil ?_
      refine TQ.thenN ?_
      refine TQ.backK (v.1 + 1, u.2) (by repeat (first | exact True.intro | refine And.intro rfl ?_)) (by repeat (first | exact True.intro | refine And.intro rfl ?_)) (List.Sublist.refl _) ⟨by omega, hu.2.row (by omega)⟩ (by simp only; omega)
  · skip
    refine TC.exit ?_
    refine TQ.thenE ?_
    refine TQ.thenE ?_
    refine TQ.blkS ?_
    refine TQ.thenC ?_
    refine TC.seq ?_
    refine TC.region ?_
    refine TL.pure (PV.move rfl) rfl (by decide) ?_
    refine TL.pure (PV.assign rfl) rfl (by decide) ?_
    refine TL.nil ?_
    refine TQ.thenC ?_
    refine TC.ret ?_
    refine TQ.retE1 rfl rfl ?_
    have e9 : v.1 = N := by omega
    have e8 := hv2.2.eq
    rw [e9] at e8
    have e7 : v.2.2 = allP N rs N := e8.trans (List.append_nil _)
    exact ⟨v.2.1, by rw [e7], by rw [← e7]; exact hv2.2.ok, by rw [← e7]; exact List.sublist_append_left _ _⟩

set_option maxRecDepth 100000 in
set_option maxHeartbeats 2000000 in
theorem Same_ok (w0 : World) (n1 : Int) (p1 : Option Addr) (c1 : Nat) (r1 : List Bd) (hr1 : BdsAt w0 p1 r1) (n2 : Int) (p2 : Option Addr) (c2 : Nat) (r2 : List Bd) (hr2 : BdsAt w0 p2 r2) :
    Calls Try.prog 46 #[cv n1 p1 r1.length c1, cv n2 p2 r2.length c2] w0 (Post (X := Unit) (fun _ => .tuple #[.bool (smR n1 r1 n2 r2), .int .i64 (smI n1 r1 n2 r2)]) (fun _ => True) (fun _ => []) w0) := by
  refine calls Try.func46 rfl (n := 35) rfl (by simp) ?_
  refine TC.seq ?_
  refine TC.region ?_
  refine TL.box rfl rfl (by decide) (fun b0 hb0 => ?_)
  refine TL.box rfl rfl (by decide) (fun b1 hb1 => ?_)
  refine TL.pure (PV.assign rfl) rfl (by decide) ?_
  refine TL.pure (PV.assign rfl) rfl (by decide) ?_
  refine TL.nil ?_
  refine TQ.thenC ?_
  refine TC.seq ?_
  refine TC.seq ?_
  refine TC.region ?_
  refine TL.pure (PV.loadBox rfl Tb.agg_24 (by repeat (first | exact List.Mem.head _ | refine fB_T ?_ _ | refine List.Mem.tail _ ?_ | refine List.mem_append_right _ ?_)) rfl) rfl (by decide) ?_
  refine TL.pure (PV.loadBox rfl Tb.agg_24 (by repeat (first | exact List.Mem.head _ | refine fB_T ?_ _ | refine List.Mem.tail _ ?_ | refine List.mem_append_right _ ?_)) rfl) rfl (by decide) ?_
  refine TL.call rfl Tb.gofn_78 (fun a w hs => pair_ok w _ _ _ _ (hr1.new hs.new) _ _ _ _ (hr2.new hs.new)) rfl (by decide) (fun _ _ => ?_)
  refine TL.pure (PV.assign rfl) rfl (by decide) ?_
  refine TL.nil ?_
  refine TQ.thenC ?_
  refine TC.seq ?_
  refine TC.region ?_
  refine TL.pure (PV.move rfl) rfl (by decide) ?_
  refine TL.pure (PV.neq rfl rfl) rfl (by decide) ?_
  refine TL.nil ?_
  refine TQ.thenC ?_
  first | refine TC.condD rfl (fun hbad => ?_) (fun hbad => ?_) | refine TC.cond rfl (fun hbad => ?_) (fun hbad => ?_)
  · skip
    refine TC.seq ?_
    refine TC.region ?_
    refine TL.pure (PV.move rfl) rfl (by decide) ?_
    refine TL.pure (PV.assign rfl) rfl (by decide) ?_
    refine TL.pure (PV.assign rfl) rfl (by decide) ?_
    refine TL.nil ?_
    refine TQ.thenC ?_
    refine TC.ret ?_
    refine TQ.thenR ?_
    refine TQ.retE2 rfl rfl rfl ?_
    exact ⟨(), by rw [(sm_1 hbad).1, (sm_1 hbad).2], trivial, List.nil_sublist _⟩
  · skip
    refine TC.skip ?_
    refine TQ.thenC ?_
    refine TC.seq ?_
    obtain ⟨v1, v2, _⟩ := pairI_is (Decidable.of_not_not hbad)
    have q1 := pof_nil v1
    have q2 := pof_nil v2
    refine TC.region ?_
    refine TL.pure (PV.loadBox rfl Tb.agg_24 (by repeat (first | exact List.Mem.head _ | refine fB_T ?_ _ | refine List.Mem.tail _ ?_ | refine List.mem_append_right _ ?_)) rfl) rfl (by decide) ?_
    refine TL.call rfl Tb.gofn_69 (fun a w hs => plainOfG_ok w _ _ _ _ (hr1.new hs.new) none 0 [] (fun j hj => absurd hj (Nat.not_lt_zero _)) (show (0 : Nat) ≤ 1000 by decide)) rfl (by decide) (fun h8 hh8 => ?_)
    refine TL.pure (PV.move rfl) rfl (by decide) ?_
    refine TL.pure (PV.extract rfl rfl) rfl (by decide) ?_
    refine TL.pure (PV.extract rfl rfl) rfl (by decide) ?_
    refine TL.pure (PV.assign rfl) rfl (by decide) ?_
    refine TL.pure (PV.assign rfl) rfl (by decide) ?_
    refine TL.nil ?_
    refine TQ.thenC ?_
    refine TC.seq ?_
    refine TC.seq ?_
    refine TC.region ?_
    refine TL.pure (PV.move rfl) rfl (by decide) ?_
    refine TL.pure (PV.neq rfl rfl) rfl (by decide) ?_
    refine TL.nil ?_
    refine TQ.thenC ?_
    first | refine TC.condD rfl (fun hc1 => ?_) (fun hc1 => ?_) | refine TC.cond rfl (fun hc1 => ?_) (fun hc1 => ?_)
    · skip
      refine TC.seq ?_
      refine TC.region ?_
      refine TL.pure (PV.move rfl) rfl (by decide) ?_
      refine TL.pure (PV.assign rfl) rfl (by decide) ?_
      refine TL.pure (PV.assign rfl) rfl (by decide) ?_
      refine TL.nil ?_
      refine TQ.thenC ?_
      refine TC.ret ?_
      refine TQ.thenR ?_
      refine TQ.retE2 rfl rfl rfl ?_
      have d1 : ¬ dOk n1 r1 = true := fun h => hc1 (by rw [q1, if_pos h])
      rw [q1, if_neg d1]
      exact ⟨(), by rw [(sm_2 hbad (fun h => d1 h.1)).1, (sm_2 hbad (fun h => d1 h.1)).2], trivial, List.nil_sublist _⟩
    · skip
      refine TC.skip ?_
      refine TQ.thenC ?_
      refine TC.seq ?_
      refine TC.region ?_
      refine TL.pure (PV.loadBox rfl Tb.agg_24 (by repeat (first | exact List.Mem.head _ | refine fB_T ?_ _ | refine List.Mem.tail _ ?_ | refine List.mem_append_right _ ?_)) rfl) rfl (by decide) ?_
      refine TL.call rfl Tb.gofn_69 (fun a w hs => plainOfG_ok w _ _ _ _ (hr2.new hs.new) none 0 [] (fun j hj => absurd hj (Nat.not_lt_zero _)) (show (0 : Nat) ≤ 1000 by decide)) rfl (by decide) (fun h9 hh9 => ?_)
      refine TL.pure (PV.move rfl) rfl (by decide) ?_
      refine TL.pure (PV.extract rfl rfl) rfl (by decide) ?_
      refine TL.pure (PV.extract rfl rfl) rfl (by decide) ?_
      refine TL.pure (PV.assign rfl) rfl (by decide) ?_
      refine TL.pure (PV.assign rfl) rfl (by decide) ?_
      refine TL.nil ?_
      refine TQ.thenC ?_
      refine TC.seq ?_
      refine TC.seq ?_
      refine TC.region ?_
      refine TL.pure (PV.move rfl) rfl (by decide) ?_
      refine TL.pure (PV.neq rfl rfl) rfl (by decide) ?_
      refine TL.nil ?_
      refine TQ.thenC ?_
      first | refine TC.condD rfl (fun hc2 => ?_) (fun hc2 => ?_) | refine TC.cond rfl (fun hc2 => ?_) (fun hc2 => ?_)
      · skip
        refine TC.seq ?_
        refine TC.region ?_
        refine TL.pure (PV.move rfl) rfl (by decide) ?_
        refine TL.pure (PV.assign rfl) rfl (by decide) ?_
        refine TL.pure (PV.assign rfl) rfl (by decide) ?_
        refine TL.nil ?_
        refine TQ.thenC ?_
        refine TC.ret ?_
        refine TQ.thenR ?_
        refine TQ.retE2 rfl rfl rfl ?_
        have d2 : ¬ dOk n2 r2 = true := fun h => hc2 (by rw [q2, if_pos h])
        rw [q2, if_neg d2]
        exact ⟨(), by rw [(sm_2 hbad (fun h => d2 h.2)).1, (sm_2 hbad (fun h => d2 h.2)).2], trivial, List.nil_sublist _⟩
      · skip
        refine TC.skip ?_
        refine TQ.thenC ?_
        refine TC.seq ?_
        refine TC.region ?_
        refine TL.pure (PV.move rfl) rfl (by decide) ?_
        refine TL.pure (PV.move rfl) rfl (by decide) ?_
        refine TL.call rfl Tb.gofn_79 (fun a w hs => sequalG hh8 hh9 (BdsAt.s hs.new (fun yy hyy => by repeat (first | exact List.mem_append_left _ hyy | refine List.mem_append_right _ ?_ | refine List.Mem.tail _ ?_)) hh8) (BdsAt.s hs.new (fun yy hyy => by repeat (first | exact List.mem_append_left _ hyy | refine List.mem_append_right _ ?_ | refine List.Mem.tail _ ?_)) hh9) (Nat.le_trans pofL_sm (by decide)) (Nat.le_trans pofL_sm (by decide))) rfl (by decide) (fun _ _ => ?_)
        refine TL.pure (PV.assign rfl) rfl (by decide) ?_
        refine TL.pure (PV.assign rfl) rfl (by decide) ?_
        refine TL.nil ?_
        refine TQ.thenC ?_
        refine TC.ret ?_
        refine TQ.retE2 rfl rfl rfl ?_
        have z1 := Decidable.of_not_not hc1
        have z2 := Decidable.of_not_not hc2
        have d1 := pof_dok z1
        have d2 := pof_dok z2
        exact ⟨(), by rw [(sm_3 hbad d1 d2).1, (sm_3 hbad d1 d2).2, pofL_is z1, pofL_is z2], trivial, List.nil_sublist _⟩

end Go.Proofs.Ytenalmddoljhoaa
