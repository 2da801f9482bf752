/- The program has the tightest bound that the document gives: contracts. -/
import Derived.Test.YtenalmddoljhoaaVP
import Derived.Test.YtenalmddoljhoaaVL
set_option linter.unusedVariables false
set_option linter.unusedSimpArgs false
namespace Go.Proofs.Ytenalmddoljhoaa
open Go.Sx Go.RowKit

section
variable {P : Program} {n : Nat} {w0 : World} {E : Env} {G : Heap} {ty : TypeId} {pos : String} {aft : Array Edge} {g : Option (Nat × Bool)} {ops : Array Oper} {Q : Exit → Act → World → Prop} {l : List Oper}
theorem PV.makeFuncP {d : Option Nat} {f : Nat} {pre : List Operand} {vs : List Value} (hx : evs E pre = some vs) : PV P n w0 E G ⟨d, .makeFunc (.func f) pre.toArray #[], ty, pos, aft, g⟩ (.func (.func f) vs.toArray #[]) :=
  fun a w hs => by
    have hm := hs.evs hx
    simp only [execOp, List.map_toArray, hm]
    simp [Instr.makeFunc]
theorem TL.callP {d : Nat} {X : Type} {f k : Nat} {xs : List Operand} {ats : Array TypeId} {vs pre : List Value} (val : X → Value) (F : X → Prop) (G' : X → Heap) (hf : Sx.look k E = some (.func (.func f) pre.toArray #[])) (hx : evs E xs = some vs) (hfn : goFn P f = true)
    (hc : ∀ a w, S n w0 E G a w → Calls P f (pre ++ vs).toArray w (fun e w' => ∃ x, e = .returned (val x) ∧ F x ∧ New w0 w' (G' x))) (hg : wants ops E g = some true) (hd : d < n)
    (h : ∀ x, F x → TL P n w0 ops Q l ((d, val x) :: E) (G' x)) :
    TL P n w0 ops Q (⟨some d, .call { callee := .value (.tmp k), args := xs.toArray, argTypes := ats }, ty, pos, aft, g⟩ :: l) E G :=
  TL.step hg fun a w hs => by
    have hm := hs.evs hx
    have hfe : a.eval (.tmp k) = .func (.func f) pre.toArray #[] := hs.ev (x := .tmp k) hf
    have hr : (execOp a.eval ⟨some d, .call { callee := .value (.tmp k), args := xs.toArray, argTypes := ats }, ty, pos, aft, g⟩).run P w = .ok (.enter f (pre ++ vs).toArray) w := by
      simp only [execOp, resolve, List.map_toArray, hm, hfe]
      show ((callFunc f (pre.toArray ++ vs.toArray ++ #[])).run P w) = _
      rw [run_goFn hfn]; simp
    unfold Oper.wp
    rw [hr]
    refine (hc a w hs).mono ?_
    rintro e w' ⟨x, rfl, hF, hN⟩
    exact h x hF _ _ ((hs.world hN).put hd _)
end
def layI (n : Int) (rs : List Bd) (ls : List Int) : Int := if validateI n rs ≠ 0 then validateI n rs else if ls.all (isLayerB n) = true then 0 else 4
theorem all_of {ls : List Int} {f : Int → Bool} (h : ∀ j, j < ls.length → f (ls.getD j 0) = true) : ls.all f = true := by
  rw [List.all_eq_true]
  intro x hx
  obtain ⟨j, hj, rfl⟩ := List.getElem_of_mem hx
  have := h j hj
  rwa [show ls.getD j 0 = ls[j] by simp [List.getD, hj]] at this
theorem not_all {ls : List Int} {f : Int → Bool} {k : Nat} (hk : k < ls.length) (h : f (ls.getD k 0) = false) : ¬ ls.all f = true := by
  intro h2
  have h3 := List.all_eq_true.1 h2 (ls.getD k 0) (by simp [List.getD, hk])
  rw [h] at h3
  cases h3
def pofI (n : Int) (rs : List Bd) (ls : List Int) : Int := if layI n rs ls ≠ 0 then layI n rs ls else if dOk n rs = true then 0 else 10
def pofL (n : Int) (rs : List Bd) (ls : List Int) : List Bd := if pofI n rs ls = 0 then plainB n.toNat rs else []
theorem pof_1 {n : Int} {rs : List Bd} {ls : List Int} (h : layI n rs ls ≠ 0) : pofI n rs ls = layI n rs ls ∧ pofL n rs ls = [] := by
  have e : pofI n rs ls = layI n rs ls := by rw [pofI, if_pos h]
  exact ⟨e, by rw [pofL, if_neg (by rw [e]; exact h)]⟩
theorem pof_2 {n : Int} {rs : List Bd} {ls : List Int} (h : ¬ layI n rs ls ≠ 0) (h2 : ¬ dOk n rs = true) : pofI n rs ls = 10 ∧ pofL n rs ls = [] := by
  have e : pofI n rs ls = 10 := by rw [pofI, if_neg h, if_neg h2]
  exact ⟨e, by rw [pofL, if_neg (by rw [e]; decide)]⟩
theorem pof_3 {n : Int} {rs : List Bd} {ls : List Int} (h : ¬ layI n rs ls ≠ 0) (h2 : dOk n rs = true) : pofI n rs ls = 0 ∧ pofL n rs ls = plainB n.toNat rs := by
  have e : pofI n rs ls = 0 := by rw [pofI, if_neg h, if_pos h2]
  exact ⟨e, by rw [pofL, if_pos e]⟩
theorem lay_valid {n : Int} {rs : List Bd} {ls : List Int} (h : ¬ layI n rs ls ≠ 0) : Valid n rs := by
  unfold layI at h
  by_cases h1 : validateI n rs ≠ 0
  · rw [if_pos h1] at h; exact absurd h1 h
  · exact vof h1
def findB (a b : Int) : List Bd → Option Int
  | [] => none
  | s :: l => if a = s.a ∧ b = s.b then some s.m else findB a b l
theorem find_at (a b m : Int) : ∀ (l : List Bd) (k : Nat), k < l.length → besB ⟨a, b, m⟩ (l.getD k default) = true → (∀ j, j < k → besB ⟨a, b, m⟩ (l.getD j default) = false) → findB a b l = some (l.getD k default).m
  | s :: l, 0, _, h, _ => by
    unfold besB at h
    simp only [List.getD_cons_zero, decide_eq_true_eq] at h
    simp [findB, h.1, h.2]
  | s :: l, k + 1, hk, h, hz => by
    have h0 := hz 0 (by omega)
    unfold besB at h0
    simp only [List.getD_cons_zero, decide_eq_false_iff_not] at h0
    simp only [List.getD_cons_succ] at h ⊢
    rw [findB, if_neg h0]
    exact find_at a b m l k (by simpa using hk) h (fun j hj => by have := hz (j + 1) (by omega); simpa only [List.getD_cons_succ] using this)
theorem find_none (a b m : Int) : ∀ (l : List Bd), (∀ j, j < l.length → besB ⟨a, b, m⟩ (l.getD j default) = false) → findB a b l = none
  | [], _ => rfl
  | s :: l, hz => by
    have h0 := hz 0 (by simp)
    unfold besB at h0
    simp only [List.getD_cons_zero, decide_eq_false_iff_not] at h0
    rw [findB, if_neg h0]
    exact find_none a b m l (fun j hj => by have := hz (j + 1) (by simpa using hj); simpa only [List.getD_cons_succ] using this)
/-- What the index function returns. -/
def Found (r : Bd) (l : List Bd) (i : Int) : Prop := (i = -1 ∧ ∀ j, j < l.length → besB r (l.getD j default) = false) ∨ (∃ k : Nat, i = k ∧ k < l.length ∧ besB r (l.getD k default) = true ∧ ∀ j, j < k → besB r (l.getD j default) = false)
def fndM (l : List Bd) (a b : Int) : Int := if a = b then 0 else (findB a b l).getD 0
def fndB (l : List Bd) (a b : Int) : Bool := if a = b then true else (findB a b l).isSome


set_option maxRecDepth 100000 in
theorem lays_ok (w0 : World) (n : Int) (p : Option Addr) (cap : Nat) (rs : List Bd) (hr : BdsAt w0 p rs) (pl : Option Addr) (cl : Nat) (ls : List Int) (hx : IntsAt w0 pl ls) (hl : ls.length ≤ 1000) :
    Calls Try.prog 74 #[cv n p rs.length cap, .slice pl ls.length cl] w0 (Post (X := Unit) (fun _ => .int .i64 (layI n rs ls)) (fun _ => True) (fun _ => []) w0) := by
  refine calls Try.func74 rfl (n := 24) rfl (by simp) ?_
  refine TC.seq ?_
  refine TC.region ?_
  refine TL.box rfl rfl (by decide) (fun b0 hb0 => ?_)
  refine TL.pure (PV.assign rfl) rfl (by decide) ?_
  refine TL.nil ?_
  refine TQ.thenC ?_
  refine TC.seq ?_
  refine TC.seq ?_
  refine TC.region ?_
  refine TL.pure (PV.loadBox rfl Tb.agg_24 (by repeat (first | exact List.Mem.head _ | refine List.Mem.tail _ ?_ | refine List.mem_append_right _ ?_)) rfl) rfl (by decide) ?_
  refine TL.call rfl Tb.gofn_21 (fun a w hs => validate_ok w _ _ _ _ (hr.new hs.new)) rfl (by decide) (fun _ _ => ?_)
  refine TL.pure (PV.assign rfl) rfl (by decide) ?_
  refine TL.nil ?_
  refine TQ.thenC ?_
  refine TC.seq ?_
  refine TC.region ?_
  refine TL.pure (PV.move rfl) rfl (by decide) ?_
  refine TL.pure (PV.neq rfl rfl) rfl (by decide) ?_
  refine TL.nil ?_
  refine TQ.thenC ?_
  first | refine TC.condD rfl (fun hbad => ?_) (fun hbad => ?_) | refine TC.cond rfl (fun hbad => ?_) (fun hbad => ?_)
  · skip
    refine TC.seq ?_
    refine TC.region ?_
    refine TL.pure (PV.move rfl) rfl (by decide) ?_
    refine TL.pure (PV.assign rfl) rfl (by decide) ?_
    refine TL.nil ?_
    refine TQ.thenC ?_
    refine TC.ret ?_
    refine TQ.thenR ?_
    refine TQ.retE1 rfl rfl ?_
    first | exact ⟨(), by rw [layI, if_pos hbad], trivial, List.nil_sublist _⟩ | exact ⟨(), by rw [layI, if_neg hbad, if_pos (all_of (fun j hj => hk.2 j (by omega)))], trivial, List.nil_sublist _⟩ | exact ⟨(), by rw [layI, if_neg hbad, if_neg (not_all (k := k) (by omega) (by unfold isLayerB; simp_all))], trivial, List.nil_sublist _⟩
  · skip
    refine TC.skip ?_
    refine TQ.thenC ?_
    refine TC.seq ?_
    refine TC.seq ?_
    refine TC.region ?_
    refine TL.pure (PV.move rfl) rfl (by decide) ?_
    refine TL.pure (PV.len rfl Tb.sl_25) rfl (by decide) ?_
    refine TL.pure (PV.move rfl) rfl (by decide) ?_
    refine TL.nil ?_
    refine TQ.thenC ?_
    refine TC.block ?_
    -- live and written in the loop, not told: [4]
    refine TC.loopG [2, 13, 14] (X := Nat) (fun k => k ≤ ls.length ∧ ∀ j, j < k → isLayerB n (ls.getD j 0) = true) (fun k => [(15, .int .i64 k)]) (fun k => ls.length - k) 0 ⟨Nat.zero_le _, fun j hj => absurd hj (Nat.not_lt_zero _)⟩ (by repeat (first | exact True.intro | refine And.intro rfl ?_)) ?_
    intro k hk
    refine TC.seq ?_
    refine TC.region ?_
    refine TL.pure (PV.lss rfl rfl) rfl (by decide) ?_
    refine TL.nil ?_
    refine TQ.thenC ?_
    refine TC.seq ?_
    first | refine TC.condD rfl (fun hlt => ?_) (fun hlt => ?_) | refine TC.cond rfl (fun hlt => ?_) (fun hlt => ?_)
    · skip
      refine TC.skip ?_
      refine TQ.thenC ?_
      refine TC.seq ?_
      refine TC.block ?_
      refine TC.seq ?_
      obtain ⟨q, hqp, hqa⟩ := hx k (by omega)
      refine TC.region ?_
      refine TL.pure (PV.indexA rfl hqp rfl Tb.elm_25 rfl (by omega)) rfl (by decide) ?_
      refine TL.pure (PV.loadOld rfl Tb.one_3 hqa) rfl (by decide) ?_
      refine TL.pure (PV.assign rfl) rfl (by decide) ?_
      refine TL.nil ?_
      refine TQ.thenC ?_
      refine TC.seq ?_
      refine TC.region ?_
      refine TL.pure (PV.loadBox rfl Tb.agg_24 (by repeat (first | exact List.Mem.head _ | refine List.Mem.tail _ ?_ | refine List.mem_append_right _ ?_)) rfl) rfl (by decide) ?_
      refine TL.pure (PV.move rfl) rfl (by decide) ?_
      refine TL.call rfl Tb.gofn_59 (fun a w hs => isLayer_ok _ _ _ _) rfl (by decide) (fun _ _ => ?_)
      refine TL.pure ((by first | exact PV.notD rfl | exact PV.not rfl)) rfl (by decide) ?_
      refine TL.nil ?_
      refine TQ.thenC ?_
      first | refine TC.condD rfl (fun hnl => ?_) (fun hnl => ?_) | refine TC.cond rfl (fun hnl => ?_) (fun hnl => ?_)
      · skip
        refine TC.seq ?_
        refine TC.region ?_
        refine TL.pure (PV.assign rfl) rfl (by decide) ?_
        refine TL.nil ?_
        refine TQ.thenC ?_
        refine TC.ret ?_
        refine TQ.blkR ?_
        refine TQ.thenR ?_
        refine TQ.thenR ?_
        refine TQ.blkR ?_
        refine TQ.thenR ?_
        refine TQ.retE1 rfl rfl ?_
        first | exact ⟨(), by rw [layI, if_pos hbad], trivial, List.nil_sublist _⟩ | exact ⟨(), by rw [layI, if_neg hbad, if_pos (all_of (fun j hj => hk.2 j (by omega)))], trivial, List.nil_sublist _⟩ | exact ⟨(), by rw [layI, if_neg hbad, if_neg (not_all (k := k) (by omega) (by unfold isLayerB; simp_all))], trivial, List.nil_sublist _⟩
      · skip
        refine TC.skip ?_
        refine TQ.blkN ?_
        refine TQ.thenC ?_
        refine TC.region ?_
        refine TL.pure (PV.add rfl rfl (by omega)) rfl (by decide) ?_
        refine TL.pure (PV.move rfl) rfl (by decide) ?_
        refine TL.nil ?_
        refine TQ.thenN ?_
        refine TQ.backK (k + 1) (by repeat (first | exact True.intro | refine And.intro rfl ?_)) (by repeat (first | exact True.intro | refine And.intro rfl ?_)) (by repeat (first | exact List.Sublist.slnil | exact List.nil_sublist _ | exact List.Sublist.refl _ | refine List.Sublist.cons_cons _ ?_ | refine List.Sublist.cons _ ?_ | refine List.Sublist.trans ?_ (List.sublist_append_right _ _))) ⟨by omega, fun j hj => if e : j < k then hk.2 j e else (show k = j by omega) ▸ (by unfold isLayerB; simp_all)⟩ (by omega)
    · skip
      refine TC.exit ?_
      refine TQ.thenE ?_
      refine TQ.thenE ?_
      refine TQ.blkS ?_
      refine TQ.thenC ?_
      refine TC.seq ?_
      refine TC.region ?_
      refine TL.pure (PV.assign rfl) rfl (by decide) ?_
      refine TL.nil ?_
      refine TQ.thenC ?_
      refine TC.ret ?_
      refine TQ.retE1 rfl rfl ?_
      first | exact ⟨(), by rw [layI, if_pos hbad], trivial, List.nil_sublist _⟩ | exact ⟨(), by rw [layI, if_neg hbad, if_pos (all_of (fun j hj => hk.2 j (by omega)))], trivial, List.nil_sublist _⟩ | exact ⟨(), by rw [layI, if_neg hbad, if_neg (not_all (k := k) (by omega) (by unfold isLayerB; simp_all))], trivial, List.nil_sublist _⟩

set_option maxRecDepth 100000 in
set_option maxHeartbeats 1000000 in
theorem plainOf_ok (w0 : World) (n : Int) (p : Option Addr) (cap : Nat) (rs : List Bd) (hr : BdsAt w0 p rs) (hne : 0 < rs.length) (hPB : ∀ i, i ≤ n.toNat → (plainN (tight rs) i).length ≤ 300 ∧ ∀ r ∈ plainN (tight rs) i, -1000000000 ≤ r.m ∧ r.m ≤ 1000000000) (pl : Option Addr) (cl : Nat) (ls : List Int) (hx : IntsAt w0 pl ls) (hl : ls.length ≤ 1000) :
    Calls Try.prog 69 #[cv n p rs.length cap, .slice pl ls.length cl] w0 (Post (X := HD) (fun h => .tuple #[gval h (pofL n rs ls).length, .int .i64 (pofI n rs ls)]) (fun h => goB h (pofL n rs ls)) (fun h => gbB 88 h (pofL n rs ls)) w0) := by
  refine calls Try.func69 rfl (n := 24) rfl (by simp) ?_
  refine TC.seq ?_
  refine TC.region ?_
  refine TL.box rfl rfl (by decide) (fun b0 hb0 => ?_)
  refine TL.pure (PV.assign rfl) rfl (by decide) ?_
  refine TL.pure (PV.assign rfl) rfl (by decide) ?_
  refine TL.nil ?_
  refine TQ.thenC ?_
  refine TC.seq ?_
  refine TC.seq ?_
  refine TC.region ?_
  refine TL.pure (PV.loadBox rfl Tb.agg_24 (by repeat (first | exact List.Mem.head _ | refine List.Mem.tail _ ?_ | refine List.mem_append_right _ ?_)) rfl) rfl (by decide) ?_
  refine TL.pure (PV.move rfl) rfl (by decide) ?_
  refine TL.call rfl Tb.gofn_74 (fun a w hs => lays_ok w _ _ _ _ (hr.new hs.new) _ _ _ (hx.new hs.new) hl) rfl (by decide) (fun _ _ => ?_)
  refine TL.pure (PV.assign rfl) rfl (by decide) ?_
  refine TL.nil ?_
  refine TQ.thenC ?_
  refine TC.seq ?_
  refine TC.region ?_
  refine TL.pure (PV.move rfl) rfl (by decide) ?_
  refine TL.pure (PV.neq rfl rfl) rfl (by decide) ?_
  refine TL.nil ?_
  refine TQ.thenC ?_
  first | refine TC.condD rfl (fun hbad => ?_) (fun hbad => ?_) | refine TC.cond rfl (fun hbad => ?_) (fun hbad => ?_)
  · skip
    refine TC.seq ?_
    refine TC.region ?_
    refine TL.pure (PV.move rfl) rfl (by decide) ?_
    refine TL.pure (PV.assign rfl) rfl (by decide) ?_
    refine TL.pure (PV.assign rfl) rfl (by decide) ?_
    refine TL.nil ?_
    refine TQ.thenC ?_
    refine TC.ret ?_
    refine TQ.thenR ?_
    refine TQ.retE2 rfl rfl rfl ?_
    obtain ⟨e1, e2⟩ := pof_1 hbad
    exact ⟨none, by rw [e1, e2]; rfl, by rw [e2]; exact ⟨rfl, rfl⟩, by rw [e2]; exact List.nil_sublist _⟩
  · skip
    refine TC.skip ?_
    refine TQ.thenC ?_
    refine TC.seq ?_
    refine TC.seq ?_
    refine TC.region ?_
    refine TL.pure (PV.loadBox rfl Tb.agg_24 (by repeat (first | exact List.Mem.head _ | refine List.Mem.tail _ ?_ | refine List.mem_append_right _ ?_)) rfl) rfl (by decide) ?_
    refine TL.call rfl Tb.gofn_19 (fun a w hs => isPossible_ok w _ _ _ _ (hr.new hs.new)) rfl (by decide) (fun _ _ => ?_)
    refine TL.pure (PV.move rfl) rfl (by decide) ?_
    refine TL.pure (PV.extract rfl rfl) rfl (by decide) ?_
    refine TL.pure (PV.extract rfl rfl) rfl (by decide) ?_
    refine TL.pure (PV.assign rfl) rfl (by decide) ?_
    refine TL.pure (PV.assign rfl) rfl (by decide) ?_
    refine TL.nil ?_
    refine TQ.thenC ?_
    refine TC.seq ?_
    refine TC.region ?_
    refine TL.pure (PV.move rfl) rfl (by decide) ?_
    refine TL.pure ((by first | exact PV.notD rfl | exact PV.not rfl)) rfl (by decide) ?_
    refine TL.nil ?_
    refine TQ.thenC ?_
    first | refine TC.condD rfl (fun himp => ?_) (fun himp => ?_) | refine TC.cond rfl (fun himp => ?_) (fun himp => ?_)
    · skip
      have hq : ¬ dOk n rs = true := by unfold dOk; simpa using himp
      refine TC.seq ?_
      refine TC.region ?_
      refine TL.pure (PV.assign rfl) rfl (by decide) ?_
      refine TL.pure (PV.assign rfl) rfl (by decide) ?_
      refine TL.nil ?_
      refine TQ.thenC ?_
      refine TC.ret ?_
      refine TQ.thenR ?_
      refine TQ.retE2 rfl rfl rfl ?_
      obtain ⟨e1, e2⟩ := pof_2 hbad hq
      exact ⟨none, by rw [e1, e2]; rfl, by rw [e2]; exact ⟨rfl, rfl⟩, by rw [e2]; exact List.nil_sublist _⟩
    · skip
      have hq : dOk n rs = true := by unfold dOk; simpa using himp
      refine TC.skip ?_
      refine TQ.thenC ?_
      refine TC.seq ?_
      have hva := lay_valid hbad
      have hvp := hva.pts
      have hvl := hva.len
      refine TC.region ?_
      refine TL.pure (PV.loadBox rfl Tb.agg_24 (by repeat (first | exact List.Mem.head _ | refine List.Mem.tail _ ?_ | refine List.mem_append_right _ ?_)) rfl) rfl (by decide) ?_
      refine TL.call rfl Tb.gofn_84 (fun a w hs => plain_ok w _ _ _ _ (hr.new hs.new) n.toNat (by omega) (by omega) hne (by omega) hPB) rfl (by decide) (fun h9 hh9 => ?_)
      refine TL.pure (PV.assign rfl) rfl (by decide) ?_
      refine TL.pure (PV.assign rfl) rfl (by decide) ?_
      refine TL.nil ?_
      refine TQ.thenC ?_
      refine TC.ret ?_
      refine TQ.retE2 rfl rfl rfl ?_
      obtain ⟨e1, e2⟩ := pof_3 hbad hq
      exact ⟨h9, by rw [e1, e2], by rw [e2]; exact hh9, by rw [e2]; exact List.sublist_append_left _ _⟩

set_option maxRecDepth 100000 in
theorem index_ok (w0 : World) (p : Option Addr) (c : Nat) (l : List Bd) (h1 : BdsAt w0 p l) (r : Bd) (hl : l.length ≤ 1000000) :
    Calls Try.prog 87 #[.slice p l.length c, .func (.func 88) #[r.val] #[]] w0 (Post (X := Int) (fun i => .int .i64 i) (fun i => Found r l i) (fun _ => []) w0) := by
  refine calls Try.func87 rfl (n := 19) rfl (by simp) ?_
  refine TC.seq ?_
  refine TC.region ?_
  refine TL.pure (PV.assign rfl) rfl (by decide) ?_
  refine TL.nil ?_
  refine TQ.thenC ?_
  refine TC.seq ?_
  refine TC.seq ?_
  refine TC.region ?_
  refine TL.pure (PV.move rfl) rfl (by decide) ?_
  refine TL.pure (PV.len rfl Tb.sl_74) rfl (by decide) ?_
  refine TL.pure (PV.move rfl) rfl (by decide) ?_
  refine TL.nil ?_
  refine TQ.thenC ?_
  refine TC.block ?_
  -- live and written in the loop, not told: [4]
  refine TC.loopG [0, 1, 7] (X := Nat) (fun k => k ≤ l.length ∧ ∀ j, j < k → besB r (l.getD j default) = false) (fun k => [(8, .int .i64 k)]) (fun k => l.length - k) 0 ⟨Nat.zero_le _, fun j hj => absurd hj (Nat.not_lt_zero _)⟩ (by repeat (first | exact True.intro | refine And.intro rfl ?_)) ?_
  intro k hk
  refine TC.seq ?_
  refine TC.region ?_
  refine TL.pure (PV.lss rfl rfl) rfl (by decide) ?_
  refine TL.nil ?_
  refine TQ.thenC ?_
  refine TC.seq ?_
  first | refine TC.condD rfl (fun hlt => ?_) (fun hlt => ?_) | refine TC.cond rfl (fun hlt => ?_) (fun hlt => ?_)
  · skip
    refine TC.skip ?_
    refine TQ.thenC ?_
    refine TC.seq ?_
    refine TC.block ?_
    refine TC.seq ?_
    refine TC.region ?_
    refine TL.pure (PV.move rfl) rfl (by decide) ?_
    refine TL.pure (PV.assign rfl) rfl (by decide) ?_
    refine TL.nil ?_
    refine TQ.thenC ?_
    refine TC.seq ?_
    obtain ⟨q, hqp, hqa⟩ := h1 k (by omega)
    refine TC.region ?_
    refine TL.pure (PV.move rfl) rfl (by decide) ?_
    refine TL.pure (PV.move rfl) rfl (by decide) ?_
    refine TL.pure (PV.move rfl) rfl (by decide) ?_
    refine TL.pure (PV.indexA rfl hqp rfl Tb.elm_74 rfl (by omega)) rfl (by decide) ?_
    refine TL.pure (PV.loadAggA rfl Tb.agg_88 rfl hqa) rfl (by decide) ?_
    refine TL.callP (f := 88) (pre := [r.val]) (X := Unit) (fun _ => .bool (besB r (l.getD k default))) (fun _ => True) (fun _ => []) rfl rfl Tb.gofn_88 (fun a w hs => (beside_ok w r (l.getD k default)).mono fun e w' ⟨x9, h1, h2, h3⟩ => ⟨x9, h1, h2, hs.new.trans h3⟩) rfl (by decide) (fun _ _ => ?_)
    refine TL.nil ?_
    refine TQ.thenC ?_
    first | refine TC.condD rfl (fun hbes => ?_) (fun hbes => ?_) | refine TC.cond rfl (fun hbes => ?_) (fun hbes => ?_)
    · skip
      refine TC.seq ?_
      refine TC.region ?_
      refine TL.pure (PV.move rfl) rfl (by decide) ?_
      refine TL.pure (PV.assign rfl) rfl (by decide) ?_
      refine TL.nil ?_
      refine TQ.thenC ?_
      refine TC.ret ?_
      refine TQ.blkR ?_
      refine TQ.thenR ?_
      refine TQ.thenR ?_
      refine TQ.blkR ?_
      refine TQ.thenR ?_
      refine TQ.retE1 rfl rfl ?_
      first | exact ⟨k, rfl, .inr ⟨k, rfl, by omega, decide_eq_true hbes, hk.2⟩, List.nil_sublist _⟩ | exact ⟨-1, rfl, .inl ⟨rfl, fun j hj => hk.2 j (by omega)⟩, List.nil_sublist _⟩
    · skip
      refine TC.skip ?_
      refine TQ.blkN ?_
      refine TQ.thenC ?_
      refine TC.region ?_
      refine TL.pure (PV.add rfl rfl (by omega)) rfl (by decide) ?_
      refine TL.pure (PV.move rfl) rfl (by decide) ?_
      refine TL.nil ?_
      refine TQ.thenN ?_
      refine TQ.backK (k + 1) (by repeat (first | exact True.intro | refine And.intro rfl ?_)) (by repeat (first | exact True.intro | refine And.intro rfl ?_)) (by repeat (first | exact List.Sublist.slnil | exact List.nil_sublist _ | exact List.Sublist.refl _ | refine List.Sublist.cons_cons _ ?_ | refine List.Sublist.cons _ ?_ | refine List.Sublist.trans ?_ (List.sublist_append_right _ _))) ⟨by omega, fun j hj => if e : j < k then hk.2 j e else (show k = j by omega) ▸ decide_eq_false hbes⟩ (by omega)
  · skip
    refine TC.exit ?_
    refine TQ.thenE ?_
    refine TQ.thenE ?_
    refine TQ.blkS ?_
    refine TQ.thenC ?_
    refine TC.seq ?_
    refine TC.region ?_
    refine TL.pure (PV.assign rfl) rfl (by decide) ?_
    refine TL.nil ?_
    refine TQ.thenC ?_
    refine TC.ret ?_
    refine TQ.retE1 rfl rfl ?_
    first | exact ⟨k, rfl, .inr ⟨k, rfl, by omega, decide_eq_true hbes, hk.2⟩, List.nil_sublist _⟩ | exact ⟨-1, rfl, .inl ⟨rfl, fun j hj => hk.2 j (by omega)⟩, List.nil_sublist _⟩

end Go.Proofs.Ytenalmddoljhoaa
