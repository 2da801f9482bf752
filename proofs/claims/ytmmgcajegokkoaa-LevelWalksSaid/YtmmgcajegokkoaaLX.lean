/- Walks: the functions' and the law's contracts. -/
import Derived.Test.YtmmgcajegokkoaaLW
import Derived.Test.YtmmgcajegokkoaaSw
set_option linter.unusedVariables false
set_option linter.unusedSimpArgs false
namespace Go.Proofs.Ytmmgcajegokkoaa
open Go.Sx Go.RowKit

end Go.Proofs.Ytmmgcajegokkoaa
namespace Go.Sx
/-- An operation whose guard's own operation was not wanted is not wanted. -/
def undoneB (ops : Array Oper) (E : Env) : Option (Nat × Bool) → Bool
  | none => false
  | some (j, _) => match (ops[j]?).bind (·.dst) with
    | none => false
    | some s => match Sx.look s E with
      | some (.tuple _) => true
      | _ => false
section
variable {P : Program} {n : Nat} {w0 : World} {E : Env} {G : Heap} {a : Act} {w : World} {ops : Array Oper} {Q : Exit → Act → World → Prop} {l : List Oper}
theorem S_undone (h : S n w0 E G a w) {o : Oper} (hw : undoneB ops E o.guard = true) : Region.wanted o (yielded ops a.tmps) = false := by
  unfold Region.wanted
  cases hg : o.guard with
  | none => simp [undoneB, hg] at hw
  | some jw =>
    obtain ⟨j, want⟩ := jw
    simp only [undoneB, hg] at hw
    simp only [yielded]
    cases hs : (ops[j]?).bind (·.dst) with
    | none => simp [hs] at hw
    | some s =>
      simp only [hs] at hw
      cases hl : Sx.look s E with
      | none => simp [hl] at hw
      | some v =>
        have := h.env s v hl
        rw [hl] at hw
        cases v <;> first | (simp [this]; done) | simp at hw
theorem TL.skipU {d : Option Nat} {op : Op} {ty : TypeId} {pos : String} {aft : Array Edge} {g : Option (Nat × Bool)}
    (hg : undoneB ops E g = true) (hd : ∀ k, d = some k → k < n) (h : TL P n w0 ops Q l (match d with | some k => (k, undef) :: E | none => E) G) :
    TL P n w0 ops Q (⟨d, op, ty, pos, aft, g⟩ :: l) E G := by
  intro a w hs
  unfold wpList
  have := S_undone hs (o := ⟨d, op, ty, pos, aft, g⟩) hg
  rw [if_neg (by simp [this])]
  cases d with
  | none => exact h _ _ hs
  | some k => exact h _ _ (hs.put (hd k rfl) undef)
theorem OpOK.skipU {d : Nat} {op : Op} {ty : TypeId} {pos : String} {aft : Array Edge} {g : Option (Nat × Bool)} (hg : undoneB ops E g = true) :
    OpOK P n w0 ops Q G E ⟨some d, op, ty, pos, aft, g⟩ d undef := by
  intro F' hF a w hs
  have := S_undone (hs.env_le hF) (o := ⟨some d, op, ty, pos, aft, g⟩) hg
  rw [if_neg (by simp [this])]
theorem TS.skipU {tl : List Oper} {d : Nat} {op : Op} {ty : TypeId} {pos : String} {aft : Array Edge} {g : Option (Nat × Bool)}
    (hg : undoneB ops E g = true) (hd : d < n) (h : TS P n w0 ops Q tl l ((d, undef) :: E) G) :
    TS P n w0 ops Q tl (⟨some d, op, ty, pos, aft, g⟩ :: l) E G := by
  intro a w hs
  unfold wpStill
  have := S_undone hs (o := ⟨some d, op, ty, pos, aft, g⟩) hg
  rw [if_neg (by simp [this])]
  exact h _ _ (hs.put hd undef)
end

end Go.Sx
namespace Go.Proofs.Ytmmgcajegokkoaa
open Go.Sx Go.RowKit
theorem part_leg {rs : List Rd} {ws : List Int} {pre : List Rd} {x : Rd} {s : Nat} (hp : pre ++ [x] <+: ws.map (legR rs)) (hpre : pre = (ws.take s).map (legR rs)) (hs : s ≤ ws.length) : s < ws.length ∧ x = legR rs (ws.getD s 0) := by
  have hl : pre.length = s := by rw [hpre]; simp; omega
  obtain ⟨t, ht⟩ := hp
  have h1 := congrArg List.length ht
  simp at h1
  have hlt : s < ws.length := by omega
  refine ⟨hlt, ?_⟩
  have h2 := congrArg (fun l => l[s]?) ht
  simp only [List.append_assoc] at h2
  rw [List.getElem?_append_right (by omega), hl, Nat.sub_self] at h2
  simpa [List.getD, hlt] using h2
theorem pre_next {rs : List Rd} {ws : List Int} {pre : List Rd} {s : Nat} (hpre : pre = (ws.take s).map (legR rs)) (hs : s < ws.length) : pre ++ [legR rs (ws.getD s 0)] = (ws.take (s + 1)).map (legR rs) := by
  rw [hpre, List.map_take, List.map_take, take_leg hs]
theorem pot_any' (n : Int) (rs : List Rd) : ∃ G, Valid n rs → Pot n rs G := by
  by_cases h : Valid n rs
  · obtain ⟨G, hG⟩ := pot_ex h
    exact ⟨G, fun _ => hG⟩
  · exact ⟨fun _ => 0, fun h' => absurd h' h⟩
theorem back {n : Int} {rs : List Rd} {f : Int} {ws : List Int} {xs : List Int} (h : wkI n rs f ws = 0) (hz : (if validateI n rs = 0 then zeroB (residL rs 1 xs) else false) = true) (he : wkA n rs f ws = f) : wkR n rs f ws = 0 := by
  obtain ⟨h1, h4, h5⟩ := wk_is h
  rw [if_pos (Decidable.of_not_not h1)] at hz
  have := tele hz h4 h5 ws.length (Nat.le_refl _)
  unfold wkA at he
  unfold wkR
  rw [if_pos h] at he ⊢
  rw [this, he]
  omega


set_option maxRecDepth 100000 in
set_option maxHeartbeats 2000000 in
theorem Walk_ok (w0 : World) (n : Int) (p : Option Addr) (cap : Nat) (rs : List Rd) (hr : RdsAt w0 p rs) (f : Int) (pw : Option Addr) (cw : Nat) (ws : List Int) (hx : IntsAt w0 pw ws) :
    Calls Try.prog 33 #[sv n p rs.length cap, .int .i64 f, .slice pw ws.length cw] w0 (Post (X := Unit) (fun _ => wkV n rs f ws) (fun _ => True) (fun _ => []) w0) := by
  refine callsRF Try.func33 rfl (n := 55) rfl (by simp) ?_
  refine TC.seq ?_
  refine TC.region ?_
  refine TL.box rfl rfl (by decide) (fun b0 hb0 => ?_)
  refine TL.alloc Tb.zero_3 rfl (by decide) (fun b1 hb1 => ?_)
  refine TL.alloc Tb.zero_3 rfl (by decide) (fun b2 hb2 => ?_)
  refine TL.alloc Tb.zero_28 rfl (by decide) (fun b3 hb3 => ?_)
  refine TL.nil ?_
  refine TQ.thenC ?_
  refine TC.seq ?_
  refine TC.seq ?_
  refine TC.region ?_
  refine TL.pure (PV.loadBox rfl Tb.agg_24 (by repeat (first | exact List.Mem.head _ | refine List.Mem.tail _ ?_ | refine List.mem_append_right _ ?_)) rfl) rfl (by decide) ?_
  refine TL.call rfl Tb.gofn_23 (fun a w hs => validate_ok w _ _ _ _ (hr.new hs.new)) rfl (by decide) (fun _ _ => ?_)
  refine TL.pure (PV.assign rfl) rfl (by decide) ?_
  refine TL.nil ?_
  refine TQ.thenC ?_
  refine TC.seq ?_
  refine TC.region ?_
  refine TL.pure (PV.move rfl) rfl (by decide) ?_
  refine TL.pure (PV.neq rfl rfl) rfl (by decide) ?_
  refine TL.nil ?_
  refine TQ.thenC ?_
  first | refine TC.condD rfl (fun hbad => ?_) (fun hbad => ?_) | refine TC.cond rfl (fun hbad => ?_) (fun hbad => ?_)
  · skip
    refine TC.seq ?_
    refine TC.region ?_
    refine TL.pure (PV.move rfl) rfl (by decide) ?_
    refine TL.store rfl rfl Tb.cells_3 rfl (by repeat (first | exact Upd.head _ | apply Upd.tail | apply Upd.appR)) (by first | decide | (simp; done) | (simp; omega) | omega) rfl rfl ?_
    refine TL.store rfl rfl Tb.cells_3 rfl (by repeat (first | exact Upd.head _ | apply Upd.tail | apply Upd.appR)) (by first | decide | (simp; done) | (simp; omega) | omega) rfl rfl ?_
    refine TL.store rfl rfl Tb.cells_28 rfl (by repeat (first | exact Upd.head _ | apply Upd.tail | apply Upd.appR)) (by first | decide | (simp; done) | (simp; omega) | omega) rfl rfl ?_
    refine TL.nil ?_
    refine TQ.thenC ?_
    refine TC.ret ?_
    refine TQ.thenR ?_
    refine TQ.retM0 ?_
    refine TQ.retR rfl (Res.cell rfl Tb.one_3 (by repeat (first | exact List.Mem.head _ | refine List.Mem.tail _ ?_ | refine List.mem_append_right _ ?_)) rfl (Res.cell rfl Tb.one_3 (by repeat (first | exact List.Mem.head _ | refine List.Mem.tail _ ?_ | refine List.mem_append_right _ ?_)) rfl (Res.cell rfl Tb.one_28 (by repeat (first | exact List.Mem.head _ | refine List.Mem.tail _ ?_ | refine List.mem_append_right _ ?_)) rfl Res.nil))) ?_
    simp only [tup]
    first | exact ⟨(), wk_no (wk_1 hbad) hbad, trivial, List.nil_sublist _⟩ | exact ⟨(), wk_no (wk_2 hbad (decide_eq_false (by first | exact hpt | omega | simpa using hpt))) (by decide), trivial, List.nil_sublist _⟩ | exact ⟨(), wk_no (wk_3 hbad hpt1 (by omega)) (by decide), trivial, List.nil_sublist _⟩ | exact ⟨(), wk_no (wk_4 hbad hpt1 (by omega) (k := k) (by omega) (decide_eq_false (by first | exact hst | omega))) (by decide), trivial, List.nil_sublist _⟩ | exact ⟨(), wk_no hF_ (by decide), trivial, List.nil_sublist _⟩ | exact ⟨(), wk_ok (wk_0 hbad hpt1 (by omega) hsp hch), trivial, List.nil_sublist _⟩
  · skip
    refine TC.skip ?_
    refine TQ.thenC ?_
    refine TC.seq ?_
    refine TC.seq ?_
    have hv := vof hbad
    have hl9 := hv.len
    refine TC.region ?_
    refine TL.pure (PV.loadBox rfl Tb.agg_24 (by repeat (first | exact List.Mem.head _ | refine List.Mem.tail _ ?_ | refine List.mem_append_right _ ?_)) rfl) rfl (by decide) ?_
    refine TL.pure (PV.move rfl) rfl (by decide) ?_
    refine TL.call rfl Tb.gofn_71 (fun a w hs => isPoint_ok w n f _) rfl (by decide) (fun _ _ => ?_)
    refine TL.pure ((by first | exact PV.notD rfl | exact PV.not rfl)) rfl (by decide) ?_
    refine TL.nil ?_
    refine TQ.thenC ?_
    first | refine TC.condD rfl (fun hpt => ?_) (fun hpt => ?_) | refine TC.cond rfl (fun hpt => ?_) (fun hpt => ?_)
    · skip
      refine TC.seq ?_
      refine TC.region ?_
      refine TL.store rfl rfl Tb.cells_3 rfl (by repeat (first | exact Upd.head _ | apply Upd.tail | apply Upd.appR)) (by first | decide | (simp; done) | (simp; omega) | omega) rfl rfl ?_
      refine TL.store rfl rfl Tb.cells_3 rfl (by repeat (first | exact Upd.head _ | apply Upd.tail | apply Upd.appR)) (by first | decide | (simp; done) | (simp; omega) | omega) rfl rfl ?_
      refine TL.store rfl rfl Tb.cells_28 rfl (by repeat (first | exact Upd.head _ | apply Upd.tail | apply Upd.appR)) (by first | decide | (simp; done) | (simp; omega) | omega) rfl rfl ?_
      refine TL.nil ?_
      refine TQ.thenC ?_
      refine TC.ret ?_
      refine TQ.thenR ?_
      refine TQ.retM0 ?_
      refine TQ.retR rfl (Res.cell rfl Tb.one_3 (by repeat (first | exact List.Mem.head _ | refine List.Mem.tail _ ?_ | refine List.mem_append_right _ ?_)) rfl (Res.cell rfl Tb.one_3 (by repeat (first | exact List.Mem.head _ | refine List.Mem.tail _ ?_ | refine List.mem_append_right _ ?_)) rfl (Res.cell rfl Tb.one_28 (by repeat (first | exact List.Mem.head _ | refine List.Mem.tail _ ?_ | refine List.mem_append_right _ ?_)) rfl Res.nil))) ?_
      simp only [tup]
      first | exact ⟨(), wk_no (wk_1 hbad) hbad, trivial, List.nil_sublist _⟩ | exact ⟨(), wk_no (wk_2 hbad (decide_eq_false (by first | exact hpt | omega | simpa using hpt))) (by decide), trivial, List.nil_sublist _⟩ | exact ⟨(), wk_no (wk_3 hbad hpt1 (by omega)) (by decide), trivial, List.nil_sublist _⟩ | exact ⟨(), wk_no (wk_4 hbad hpt1 (by omega) (k := k) (by omega) (decide_eq_false (by first | exact hst | omega))) (by decide), trivial, List.nil_sublist _⟩ | exact ⟨(), wk_no hF_ (by decide), trivial, List.nil_sublist _⟩ | exact ⟨(), wk_ok (wk_0 hbad hpt1 (by omega) hsp hch), trivial, List.nil_sublist _⟩
    · skip
      refine TC.skip ?_
      refine TQ.thenC ?_
      refine TC.seq ?_
      refine TC.seq ?_
      have hpt1 : isPointB n f = true := decide_eq_true (by first | exact hpt | omega | simpa using hpt)
      refine TC.region ?_
      refine TL.pure (PV.move rfl) rfl (by decide) ?_
      refine TL.pure (PV.len rfl Tb.sl_31) rfl (by decide) ?_
      refine TL.pure (PV.gtr rfl rfl) rfl (by decide) ?_
      refine TL.nil ?_
      refine TQ.thenC ?_
      first | refine TC.condD rfl (fun hlong => ?_) (fun hlong => ?_) | refine TC.cond rfl (fun hlong => ?_) (fun hlong => ?_)
      · skip
        refine TC.seq ?_
        refine TC.region ?_
        refine TL.store rfl rfl Tb.cells_3 rfl (by repeat (first | exact Upd.head _ | apply Upd.tail | apply Upd.appR)) (by first | decide | (simp; done) | (simp; omega) | omega) rfl rfl ?_
        refine TL.store rfl rfl Tb.cells_3 rfl (by repeat (first | exact Upd.head _ | apply Upd.tail | apply Upd.appR)) (by first | decide | (simp; done) | (simp; omega) | omega) rfl rfl ?_
        refine TL.store rfl rfl Tb.cells_28 rfl (by repeat (first | exact Upd.head _ | apply Upd.tail | apply Upd.appR)) (by first | decide | (simp; done) | (simp; omega) | omega) rfl rfl ?_
        refine TL.nil ?_
        refine TQ.thenC ?_
        refine TC.ret ?_
        refine TQ.thenR ?_
        refine TQ.retM0 ?_
        refine TQ.retR rfl (Res.cell rfl Tb.one_3 (by repeat (first | exact List.Mem.head _ | refine List.Mem.tail _ ?_ | refine List.mem_append_right _ ?_)) rfl (Res.cell rfl Tb.one_3 (by repeat (first | exact List.Mem.head _ | refine List.Mem.tail _ ?_ | refine List.mem_append_right _ ?_)) rfl (Res.cell rfl Tb.one_28 (by repeat (first | exact List.Mem.head _ | refine List.Mem.tail _ ?_ | refine List.mem_append_right _ ?_)) rfl Res.nil))) ?_
        simp only [tup]
        first | exact ⟨(), wk_no (wk_1 hbad) hbad, trivial, List.nil_sublist _⟩ | exact ⟨(), wk_no (wk_2 hbad (decide_eq_false (by first | exact hpt | omega | simpa using hpt))) (by decide), trivial, List.nil_sublist _⟩ | exact ⟨(), wk_no (wk_3 hbad hpt1 (by omega)) (by decide), trivial, List.nil_sublist _⟩ | exact ⟨(), wk_no (wk_4 hbad hpt1 (by omega) (k := k) (by omega) (decide_eq_false (by first | exact hst | omega))) (by decide), trivial, List.nil_sublist _⟩ | exact ⟨(), wk_no hF_ (by decide), trivial, List.nil_sublist _⟩ | exact ⟨(), wk_ok (wk_0 hbad hpt1 (by omega) hsp hch), trivial, List.nil_sublist _⟩
      · skip
        refine TC.skip ?_
        refine TQ.thenC ?_
        refine TC.seq ?_
        refine TC.seq ?_
        refine TC.region ?_
        refine TL.pure (PV.move rfl) rfl (by decide) ?_
        refine TL.pure (PV.len rfl Tb.sl_31) rfl (by decide) ?_
        refine TL.pure (PV.move rfl) rfl (by decide) ?_
        refine TL.nil ?_
        refine TQ.thenC ?_
        refine TC.block ?_
        refine TC.loopG [1, 2, 3, 6, 7, 8, 27, 28, 42] (X := Nat) (fun k => k ≤ ws.length ∧ ∀ j, j < k → stpB rs (ws.getD j 0) = true) (fun k => [(29, .int .i64 k)]) (fun k => ws.length - k) 0 ⟨Nat.zero_le _, fun j hj => absurd hj (Nat.not_lt_zero _)⟩ (by repeat (first | exact True.intro | refine And.intro rfl ?_)) ?_
        intro k hk
        refine TC.seq ?_
        refine TC.region ?_
        refine TL.pure (PV.lss rfl rfl) rfl (by decide) ?_
        refine TL.nil ?_
        refine TQ.thenC ?_
        refine TC.seq ?_
        first | refine TC.condD rfl (fun hlt => ?_) (fun hlt => ?_) | refine TC.cond rfl (fun hlt => ?_) (fun hlt => ?_)
        · skip
          refine TC.skip ?_
          refine TQ.thenC ?_
          refine TC.seq ?_
          refine TC.block ?_
          refine TC.seq ?_
          obtain ⟨q2, hq2p, hq2⟩ := hx k (by omega)
          refine TC.region ?_
          refine TL.pure (PV.indexA rfl hq2p rfl Tb.elm_31 rfl (by omega)) rfl (by decide) ?_
          refine TL.pure (PV.loadOld rfl Tb.one_3 hq2) rfl (by decide) ?_
          refine TL.pure (PV.assign rfl) rfl (by decide) ?_
          refine TL.nil ?_
          refine TQ.thenC ?_
          refine TC.seq ?_
          refine TC.region ?_
          refine TL.pure (PV.loadBox rfl Tb.agg_24 (by repeat (first | exact List.Mem.head _ | refine List.Mem.tail _ ?_ | refine List.mem_append_right _ ?_)) rfl) rfl (by decide) ?_
          refine TL.pure (PV.move rfl) rfl (by decide) ?_
          refine TL.call rfl Tb.gofn_72 (fun a w hs => isStep_ok w _ _ _ _ (hr.new hs.new) (by omega) _) rfl (by decide) (fun _ _ => ?_)
          refine TL.pure ((by first | exact PV.notD rfl | exact PV.not rfl)) rfl (by decide) ?_
          refine TL.nil ?_
          refine TQ.thenC ?_
          first | refine TC.condD rfl (fun hst => ?_) (fun hst => ?_) | refine TC.cond rfl (fun hst => ?_) (fun hst => ?_)
          · skip
            refine TC.seq ?_
            refine TC.region ?_
            refine TL.store rfl rfl Tb.cells_3 rfl (by repeat (first | exact Upd.head _ | apply Upd.tail | apply Upd.appR)) (by first | decide | (simp; done) | (simp; omega) | omega) rfl rfl ?_
            refine TL.store rfl rfl Tb.cells_3 rfl (by repeat (first | exact Upd.head _ | apply Upd.tail | apply Upd.appR)) (by first | decide | (simp; done) | (simp; omega) | omega) rfl rfl ?_
            refine TL.store rfl rfl Tb.cells_28 rfl (by repeat (first | exact Upd.head _ | apply Upd.tail | apply Upd.appR)) (by first | decide | (simp; done) | (simp; omega) | omega) rfl rfl ?_
            refine TL.nil ?_
            refine TQ.thenC ?_
            refine TC.ret ?_
            refine TQ.blkR ?_
            refine TQ.thenR ?_
            refine TQ.thenR ?_
            refine TQ.blkR ?_
            refine TQ.thenR ?_
            refine TQ.retM0 ?_
            refine TQ.retR rfl (Res.cell rfl Tb.one_3 (by repeat (first | exact List.Mem.head _ | refine List.Mem.tail _ ?_ | refine List.mem_append_right _ ?_)) rfl (Res.cell rfl Tb.one_3 (by repeat (first | exact List.Mem.head _ | refine List.Mem.tail _ ?_ | refine List.mem_append_right _ ?_)) rfl (Res.cell rfl Tb.one_28 (by repeat (first | exact List.Mem.head _ | refine List.Mem.tail _ ?_ | refine List.mem_append_right _ ?_)) rfl Res.nil))) ?_
            simp only [tup]
            first | exact ⟨(), wk_no (wk_1 hbad) hbad, trivial, List.nil_sublist _⟩ | exact ⟨(), wk_no (wk_2 hbad (decide_eq_false (by first | exact hpt | omega | simpa using hpt))) (by decide), trivial, List.nil_sublist _⟩ | exact ⟨(), wk_no (wk_3 hbad hpt1 (by omega)) (by decide), trivial, List.nil_sublist _⟩ | exact ⟨(), wk_no (wk_4 hbad hpt1 (by omega) (k := k) (by omega) (decide_eq_false (by first | exact hst | omega))) (by decide), trivial, List.nil_sublist _⟩ | exact ⟨(), wk_no hF_ (by decide), trivial, List.nil_sublist _⟩ | exact ⟨(), wk_ok (wk_0 hbad hpt1 (by omega) hsp hch), trivial, List.nil_sublist _⟩
          · skip
            refine TC.skip ?_
            refine TQ.blkN ?_
            refine TQ.thenC ?_
            refine TC.region ?_
            refine TL.pure (PV.add rfl rfl (by omega)) rfl (by decide) ?_
            refine TL.pure (PV.move rfl) rfl (by decide) ?_
            refine TL.nil ?_
            refine TQ.thenN ?_
            refine TQ.backK (k + 1) (by repeat (first | exact True.intro | refine And.intro rfl ?_)) (by repeat (first | exact True.intro | refine And.intro rfl ?_)) (by repeat (first | exact List.Sublist.slnil | exact List.nil_sublist _ | exact List.Sublist.refl _ | refine List.Sublist.cons_cons _ ?_ | refine List.Sublist.cons _ ?_ | refine List.Sublist.trans ?_ (List.sublist_append_right _ _))) ⟨by omega, fun j hj => if e : j < k then hk.2 j e else (show k = j by omega) ▸ decide_eq_true (by first | exact hst | omega)⟩ (by omega)
        · skip
          refine TC.exit ?_
          refine TQ.thenE ?_
          refine TQ.thenE ?_
          refine TQ.blkS ?_
          refine TQ.thenC ?_
          refine TC.seq ?_
          have hsp : ∀ j, j < ws.length → stpB rs (ws.getD j 0) = true := fun j hj => hk.2 j (by omega)
          refine TC.region ?_
          refine TL.pure (PV.move rfl) rfl (by decide) ?_
          refine TL.alloc Tb.zero_3 rfl (by decide) (fun b4 hb4 => ?_)
          refine TL.alloc Tb.zero_3 rfl (by decide) (fun b5 hb5 => ?_)
          refine TL.store rfl rfl Tb.cells_3 rfl (by repeat (first | exact Upd.head _ | apply Upd.tail | apply Upd.appR)) (by first | decide | (simp; done) | (simp; omega) | omega) rfl rfl ?_
          refine TL.store rfl rfl Tb.cells_3 rfl (by repeat (first | exact Upd.head _ | apply Upd.tail | apply Upd.appR)) (by first | decide | (simp; done) | (simp; omega) | omega) rfl rfl ?_
          refine TL.nil ?_
          refine TQ.thenC ?_
          refine TC.seq ?_
          refine TC.seq ?_
          refine TC.region ?_
          refine TL.pure (PV.loadBox rfl Tb.agg_24 (by repeat (first | exact List.Mem.head _ | refine List.Mem.tail _ ?_ | refine List.mem_append_right _ ?_)) rfl) rfl (by decide) ?_
          refine TL.pure (PV.move rfl) rfl (by decide) ?_
          refine TL.call rfl Tb.gofn_73 (fun a w hs => legs_ok w _ _ _ _ (hr.new hs.new) pw cw ws (hx.new hs.new)) rfl (by decide) (fun y9 _ => ?_)
          refine TL.nil ?_
          refine TQ.thenC ?_
          refine TC.block ?_
          refine TC.rangeFunc (encs := fun r : Rd => [r.val]) (kept := [(y9.1, Obj.cells #[.slice pw ws.length cw] 31 (0, 0)), (y9.2, Obj.cells (sv n p rs.length cap).cells 24 (0, 0))]) (α := Rd) (X := Nat) (Y := Unit) (Z := Nat × Nat) (ps := [42]) (fun pre s => pre = (ws.take s).map (legR rs) ∧ s ≤ ws.length ∧ ∀ j, j < s → chW rs f ws j = true) (fun s => [(y9.1, Obj.cells #[.slice pw ws.length cw] 31 (0, 0)), (y9.2, Obj.cells (sv n p rs.length cap).cells 24 (0, 0)), (b5, Obj.cells #[.int .i64 (riW rs ws s)] 3 (0, 0)), (b4, Obj.cells #[.int .i64 (atW rs f ws s)] 3 (0, 0)), (b3, Obj.cells #[.int .i64 0] 28 (0, 0)), (b2, Obj.cells #[.int .i64 0] 3 (0, 0)), (b1, Obj.cells #[.int .i64 0] 3 (0, 0)), (b0, Obj.cells (sv n p rs.length cap).cells 24 (0, 0))]) (fun pre y => wkI n rs f ws = 9) (fun y => [(b3, Obj.cells #[.int .i64 9] 28 (0, 0)), (b2, Obj.cells #[.int .i64 0] 3 (0, 0)), (b1, Obj.cells #[.int .i64 0] 3 (0, 0))]) 0 (fun x s z => z.2 = s) (fun x z => [(14, .pointer (some ⟨z.1, 0, none⟩)), (12, .pointer (some ⟨b4, 0, none⟩)), (13, .pointer (some ⟨b5, 0, none⟩)), (6, .pointer (some ⟨b1, 0, none⟩)), (7, .pointer (some ⟨b2, 0, none⟩)), (8, .pointer (some ⟨b3, 0, none⟩))]) (fun x z => (z.1, Obj.cells x.cells.toArray 61 (0, 0)) :: [(y9.1, Obj.cells #[.slice pw ws.length cw] 31 (0, 0)), (y9.2, Obj.cells (sv n p rs.length cap).cells 24 (0, 0)), (b5, Obj.cells #[.int .i64 (riW rs ws z.2)] 3 (0, 0)), (b4, Obj.cells #[.int .i64 (atW rs f ws z.2)] 3 (0, 0)), (b3, Obj.cells #[.int .i64 0] 28 (0, 0)), (b2, Obj.cells #[.int .i64 0] 3 (0, 0)), (b1, Obj.cells #[.int .i64 0] 3 (0, 0)), (b0, Obj.cells (sv n p rs.length cap).cells 24 (0, 0))]) rfl Tb.gofn_96 (legs_it w0 n p cap rs hr hv pw cw ws hx (by omega) hsp y9.1 y9.2) (fun _ => rfl) (by decide) ⟨rfl, Nat.zero_le _, fun j hj => absurd hj (Nat.not_lt_zero _)⟩ (by repeat (first | exact List.Sublist.slnil | exact List.nil_sublist _ | exact List.Sublist.refl _ | refine List.Sublist.cons_cons _ ?_ | refine List.Sublist.cons _ ?_ | refine List.Sublist.trans ?_ (List.sublist_append_right _ _))) (fun s q hq => by simp only [List.mem_cons, List.not_mem_nil, or_false] at hq ⊢; rcases hq with rfl | rfl <;> simp) ?_ ?_ ?_ ?_
          · skip
            intro lR TR pre x s hp_ hF_
            refine TG.region (by repeat (first | with_reducible exact RB.lo | with_reducible exact QN.lo | with_reducible exact bodyM_lo | with_reducible exact bodyP_lo | with_reducible apply lo_then | with_reducible apply lo_blk)) (by kernel_rfl) ?_
            refine TL.alloc Tb.zero_61 rfl (by decide) (fun b6 hb6 => ?_)
            refine TL.storeAgg rfl rfl Tb.cells_61 (by repeat (first | exact Upd.head _ | apply Upd.tail | apply Upd.appR)) rfl rfl rfl rfl rfl ?_
            refine TL.nil ?_
            refine TQ.gmid (b6, s) rfl (by repeat (first | exact True.intro | refine And.intro rfl ?_)) (List.Sublist.refl _)
          · skip
            intro lR TR pre x s z hp_ hF_ hz_
            obtain ⟨zb, zs⟩ := z
            obtain rfl : zs = s := hz_
            obtain ⟨hpre, hsl, hch⟩ := hF_
            obtain ⟨hslt, rfl⟩ := part_leg hp_ hpre hsl
            have hri := riW_bd hv hsp zs (by omega)
            have hla := leg_at hv (hsp zs hslt)
            dsimp only
            refine TG.block ?_
            refine TG.seq ?_
            refine TG.seq ?_
            refine TG.region (by repeat (first | with_reducible exact RB.lo | with_reducible exact QN.lo | with_reducible exact bodyM_lo | with_reducible exact bodyP_lo | with_reducible apply lo_then | with_reducible apply lo_blk)) (by kernel_rfl) ?_
            refine TL.pure (PV.fieldAddr rfl Tb.fo_61_0) rfl (by decide) ?_
            refine TL.pure (PV.load rfl Tb.one_3 (by repeat (first | exact List.Mem.head _ | refine List.Mem.tail _ ?_ | refine List.mem_append_right _ ?_)) rfl) rfl (by decide) ?_
            refine TL.pure (PV.load rfl Tb.one_3 (by repeat (first | exact List.Mem.head _ | refine List.Mem.tail _ ?_ | refine List.mem_append_right _ ?_)) rfl) rfl (by decide) ?_
            refine TL.pure (PV.neq rfl rfl) rfl (by decide) ?_
            refine TL.nil ?_
            refine TQ.thenG ?_
            first | refine TG.condD rfl (fun hne => ?_) (fun hne => ?_) | refine TG.cond rfl (fun hne => ?_) (fun hne => ?_)
            · skip
              refine TG.seq ?_
              refine TG.region (by repeat (first | with_reducible exact RB.lo | with_reducible exact QN.lo | with_reducible exact bodyM_lo | with_reducible exact bodyP_lo | with_reducible apply lo_then | with_reducible apply lo_blk)) (by kernel_rfl) ?_
              refine TL.store rfl rfl Tb.cells_3 rfl (by repeat (first | exact Upd.head _ | apply Upd.tail | apply Upd.appR)) (by first | decide | (simp; done) | (simp; omega) | omega) rfl rfl ?_
              refine TL.store rfl rfl Tb.cells_3 rfl (by repeat (first | exact Upd.head _ | apply Upd.tail | apply Upd.appR)) (by first | decide | (simp; done) | (simp; omega) | omega) rfl rfl ?_
              refine TL.store rfl rfl Tb.cells_28 rfl (by repeat (first | exact Upd.head _ | apply Upd.tail | apply Upd.appR)) (by first | decide | (simp; done) | (simp; omega) | omega) rfl rfl ?_
              refine TL.nil ?_
              refine TQ.thenG ?_
              refine TG.ret ?_
              refine TQ.gthenR ?_
              refine TQ.gblkR ?_
              refine TQ.leave () (wk_9 hbad hpt1 (by omega) hsp hslt (decide_eq_false (by omega))) (by repeat (first | exact List.Sublist.slnil | exact List.nil_sublist _ | exact List.Sublist.refl _ | refine List.Sublist.cons_cons _ ?_ | refine List.Sublist.cons _ ?_ | refine List.Sublist.trans ?_ (List.sublist_append_right _ _)))
            · skip
              refine TG.skip ?_
              refine TQ.thenG ?_
              refine TG.seq ?_
              refine TG.region (by repeat (first | with_reducible exact RB.lo | with_reducible exact QN.lo | with_reducible exact bodyM_lo | with_reducible exact bodyP_lo | with_reducible apply lo_then | with_reducible apply lo_blk)) (by kernel_rfl) ?_
              refine TL.pure (PV.fieldAddr rfl Tb.fo_61_1) rfl (by decide) ?_
              refine TL.pure (PV.load rfl Tb.one_3 (by repeat (first | exact List.Mem.head _ | refine List.Mem.tail _ ?_ | refine List.mem_append_right _ ?_)) rfl) rfl (by decide) ?_
              refine TL.store rfl rfl Tb.cells_3 rfl (by repeat (first | exact Upd.head _ | apply Upd.tail | apply Upd.appR)) (by first | decide | (simp; done) | (simp; omega) | omega) rfl rfl ?_
              refine TL.nil ?_
              refine TQ.thenG ?_
              refine TG.region (by repeat (first | with_reducible exact RB.lo | with_reducible exact QN.lo | with_reducible exact bodyM_lo | with_reducible exact bodyP_lo | with_reducible apply lo_then | with_reducible apply lo_blk)) (by kernel_rfl) ?_
              refine TL.pure (PV.load rfl Tb.one_3 (by repeat (first | exact List.Mem.head _ | refine List.Mem.tail _ ?_ | refine List.mem_append_right _ ?_)) rfl) rfl (by decide) ?_
              refine TL.pure (PV.fieldAddr rfl Tb.fo_61_2) rfl (by decide) ?_
              refine TL.pure (PV.load rfl Tb.one_3 (by repeat (first | exact List.Mem.head _ | refine List.Mem.tail _ ?_ | refine List.mem_append_right _ ?_)) rfl) rfl (by decide) ?_
              refine TL.pure (PV.add rfl rfl (by omega)) rfl (by decide) ?_
              refine TL.store rfl rfl Tb.cells_3 rfl (by repeat (first | exact Upd.head _ | apply Upd.tail | apply Upd.appR)) (by first | decide | (simp; done) | (simp; omega) | omega) rfl rfl ?_
              refine TL.nil ?_
              refine TQ.gblkN ?_
              refine TQ.goOn (zs + 1) ⟨pre_next hpre hslt, hslt, fun j hj => if e : j < zs then hch j e else (show zs = j by omega) ▸ decide_eq_true (by omega)⟩ (by repeat (first | exact List.Sublist.slnil | exact List.nil_sublist _ | exact List.Sublist.refl _ | refine List.Sublist.cons_cons _ ?_ | refine List.Sublist.cons _ ?_ | refine List.Sublist.trans ?_ (List.sublist_append_right _ _)))
          · skip
            intro dB lB oB xs_ s hD_ hF_
            obtain ⟨hpre, hsl, hch⟩ := hF_
            have hse : s = ws.length := by have h7 := congrArg List.length (hpre.symm.trans hD_); simp at h7; omega
            subst hse
            refine TQ.gblkN ?_
            refine TQ.thenD ?_
            refine TG.seq ?_
            refine TG.mix (by repeat (first | with_reducible exact RB.lo | with_reducible exact QN.lo | with_reducible exact bodyM_lo | with_reducible exact bodyP_lo | with_reducible apply lo_then | with_reducible apply lo_blk)) (by kernel_rfl) [true, true, false, false, false] [(b5, Obj.cells #[.int .i64 (riW rs ws ws.length)] 3 (0, 0)), (b4, Obj.cells #[.int .i64 (atW rs f ws ws.length)] 3 (0, 0))] 3 Tb.mixed rfl (by kernel_rfl) (by kernel_rfl) (by kernel_rfl) (by kernel_rfl) (by repeat (first | exact List.Sublist.slnil | exact List.nil_sublist _ | exact List.Sublist.refl _ | refine List.Sublist.cons_cons _ ?_ | refine List.Sublist.cons _ ?_ | refine List.Sublist.trans ?_ (List.sublist_append_right _ _))) ?_
            refine TB.op (SOK.pure (PV.load rfl Tb.one_3 (by repeat (first | exact List.Mem.head _ | refine List.Mem.tail _ ?_ | refine List.mem_append_right _ ?_)) rfl) rfl) (by decide) ?_
            refine TB.op (SOK.pure (PV.load rfl Tb.one_3 (by repeat (first | exact List.Mem.head _ | refine List.Mem.tail _ ?_ | refine List.mem_append_right _ ?_)) rfl) rfl) (by decide) ?_
            refine TB.no ?_
            refine TB.no ?_
            refine TB.no ?_
            refine TB.fin ?_
            refine TX.step [2] (by kernel_rfl) (by decide) ⟨⟨_, rfl, ?_⟩, trivial⟩
            refine TL.store rfl rfl Tb.cells_3 rfl (by repeat (first | exact Upd.head _ | apply Upd.tail | apply Upd.appR)) (by first | decide | (simp; done) | (simp; omega) | omega) rfl rfl ?_
            refine TL.nil ?_
            refine TX.next (.inl (by repeat (first | exact List.Sublist.slnil | exact List.nil_sublist _ | exact List.Sublist.refl _ | refine List.Sublist.cons_cons _ ?_ | refine List.Sublist.cons _ ?_ | refine List.Sublist.trans ?_ (List.sublist_append_right _ _)))) ?_
            refine TX.step [3] (by kernel_rfl) (by decide) ⟨⟨_, rfl, ?_⟩, trivial⟩
            refine TL.store rfl rfl Tb.cells_3 rfl (by repeat (first | exact Upd.head _ | apply Upd.tail | apply Upd.appR)) (by first | decide | (simp; done) | (simp; omega) | omega) rfl rfl ?_
            refine TL.nil ?_
            refine TX.next (.inr (by kernel_rfl)) ?_
            refine TX.step [4] (by kernel_rfl) (by decide) ⟨⟨_, rfl, ?_⟩, trivial⟩
            refine TL.store rfl rfl Tb.cells_28 rfl (by repeat (first | exact Upd.head _ | apply Upd.tail | apply Upd.appR)) (by first | decide | (simp; done) | (simp; omega) | omega) rfl rfl ?_
            refine TL.nil ?_
            refine TX.next (.inr (by kernel_rfl)) ?_
            refine TX.done (by kernel_rfl) ?_
            refine TQ.thenG ?_
            refine TG.ret ?_
            refine TQ.retM (by repeat (first | exact Take.head _ | apply Take.tail | apply Take.appR)) ?_
            refine TQ.retR rfl (Res.cell rfl Tb.one_3 (by repeat (first | exact List.Mem.head _ | refine List.Mem.tail _ ?_ | refine List.mem_append_right _ ?_)) rfl (Res.cell rfl Tb.one_3 (by repeat (first | exact List.Mem.head _ | refine List.Mem.tail _ ?_ | refine List.mem_append_right _ ?_)) rfl (Res.cell rfl Tb.one_28 (by repeat (first | exact List.Mem.head _ | refine List.Mem.tail _ ?_ | refine List.mem_append_right _ ?_)) rfl Res.nil))) ?_
            simp only [tup]
            first | exact ⟨(), wk_no (wk_1 hbad) hbad, trivial, List.nil_sublist _⟩ | exact ⟨(), wk_no (wk_2 hbad (decide_eq_false (by first | exact hpt | omega | simpa using hpt))) (by decide), trivial, List.nil_sublist _⟩ | exact ⟨(), wk_no (wk_3 hbad hpt1 (by omega)) (by decide), trivial, List.nil_sublist _⟩ | exact ⟨(), wk_no (wk_4 hbad hpt1 (by omega) (k := k) (by omega) (decide_eq_false (by first | exact hst | omega))) (by decide), trivial, List.nil_sublist _⟩ | exact ⟨(), wk_no hF_ (by decide), trivial, List.nil_sublist _⟩ | exact ⟨(), wk_ok (wk_0 hbad hpt1 (by omega) hsp hch), trivial, List.nil_sublist _⟩
          · skip
            intro dB lB oB xs_ y hP_ hF_
            refine TQ.gblkR ?_
            refine TQ.gthenR ?_
            refine TQ.retM (by repeat (first | exact Take.head _ | apply Take.tail | apply Take.appR)) ?_
            refine TQ.retR rfl (Res.cell rfl Tb.one_3 (by repeat (first | exact List.Mem.head _ | refine List.Mem.tail _ ?_ | refine List.mem_append_right _ ?_)) rfl (Res.cell rfl Tb.one_3 (by repeat (first | exact List.Mem.head _ | refine List.Mem.tail _ ?_ | refine List.mem_append_right _ ?_)) rfl (Res.cell rfl Tb.one_28 (by repeat (first | exact List.Mem.head _ | refine List.Mem.tail _ ?_ | refine List.mem_append_right _ ?_)) rfl Res.nil))) ?_
            simp only [tup]
            first | exact ⟨(), wk_no (wk_1 hbad) hbad, trivial, List.nil_sublist _⟩ | exact ⟨(), wk_no (wk_2 hbad (decide_eq_false (by first | exact hpt | omega | simpa using hpt))) (by decide), trivial, List.nil_sublist _⟩ | exact ⟨(), wk_no (wk_3 hbad hpt1 (by omega)) (by decide), trivial, List.nil_sublist _⟩ | exact ⟨(), wk_no (wk_4 hbad hpt1 (by omega) (k := k) (by omega) (decide_eq_false (by first | exact hst | omega))) (by decide), trivial, List.nil_sublist _⟩ | exact ⟨(), wk_no hF_ (by decide), trivial, List.nil_sublist _⟩ | exact ⟨(), wk_ok (wk_0 hbad hpt1 (by omega) hsp hch), trivial, List.nil_sublist _⟩

set_option maxRecDepth 100000 in
set_option maxHeartbeats 2000000 in
theorem rWalk_ok (w0 : World) (n : Int) (p : Option Addr) (cap : Nat) (rs : List Rd) (hr : RdsAt w0 p rs) (f : Int) (pw : Option Addr) (cw : Nat) (ws : List Int) (hx : IntsAt w0 pw ws) :
    Calls Try.prog 34 #[sv n p rs.length cap, .int .i64 f, .slice pw ws.length cw] w0 (Post (X := Unit) (fun _ => wkV n rs f ws) (fun _ => True) (fun _ => []) w0) := by
  refine calls Try.func34 rfl (n := 102) rfl (by simp) ?_
  refine TC.seq ?_
  refine TC.region ?_
  refine TL.box rfl rfl (by decide) (fun b0 hb0 => ?_)
  refine TL.pure (PV.assign rfl) rfl (by decide) ?_
  refine TL.pure (PV.assign rfl) rfl (by decide) ?_
  refine TL.pure (PV.assign rfl) rfl (by decide) ?_
  refine TL.nil ?_
  refine TQ.thenC ?_
  refine TC.seq ?_
  refine TC.seq ?_
  refine TC.region ?_
  refine TL.pure (PV.loadBox rfl Tb.agg_24 (by repeat (first | exact List.Mem.head _ | refine List.Mem.tail _ ?_ | refine List.mem_append_right _ ?_)) rfl) rfl (by decide) ?_
  refine TL.call rfl Tb.gofn_24 (fun a w hs => rvalidate_ok w _ _ _ _ (hr.new hs.new)) rfl (by decide) (fun _ _ => ?_)
  refine TL.pure (PV.assign rfl) rfl (by decide) ?_
  refine TL.nil ?_
  refine TQ.thenC ?_
  refine TC.seq ?_
  refine TC.region ?_
  refine TL.pure (PV.move rfl) rfl (by decide) ?_
  refine TL.pure (PV.neq rfl rfl) rfl (by decide) ?_
  refine TL.nil ?_
  refine TQ.thenC ?_
  first | refine TC.condD rfl (fun hbad => ?_) (fun hbad => ?_) | refine TC.cond rfl (fun hbad => ?_) (fun hbad => ?_)
  · skip
    refine TC.seq ?_
    refine TC.region ?_
    refine TL.pure (PV.move rfl) rfl (by decide) ?_
    refine TL.pure (PV.assign rfl) rfl (by decide) ?_
    refine TL.pure (PV.assign rfl) rfl (by decide) ?_
    refine TL.pure (PV.assign rfl) rfl (by decide) ?_
    refine TL.nil ?_
    refine TQ.thenC ?_
    refine TC.ret ?_
    refine TQ.thenR ?_
    refine TQ.retE3 rfl rfl rfl rfl ?_
    first | exact ⟨(), wk_no (wk_1 hbad) hbad, trivial, List.nil_sublist _⟩ | exact ⟨(), wk_no (wk_2 hbad (decide_eq_false (by omega))) (by decide), trivial, List.nil_sublist _⟩ | exact ⟨(), wk_no (wk_3 hbad hpt1 (by omega)) (by decide), trivial, List.nil_sublist _⟩ | exact ⟨(), wk_no (wk_4 hbad hpt1 (by omega) (k := k) (by omega) (decide_eq_false (by omega))) (by decide), trivial, List.nil_sublist _⟩ | exact ⟨(), wk_no (wk_9 hbad hpt1 (by omega) hsp (k := k) (by omega) (decide_eq_false (by omega))) (by decide), trivial, List.nil_sublist _⟩ | (have hse : k = ws.length := (by omega); subst hse; exact ⟨(), wk_ok (wk_0 hbad hpt1 (by omega) hsp hk2.2), trivial, List.nil_sublist _⟩)
  · skip
    refine TC.skip ?_
    refine TQ.thenC ?_
    refine TC.seq ?_
    refine TC.seq ?_
    have hv := vof hbad
    have hl9 := hv.len
    have hnp := hv.pts
    refine TC.region ?_
    refine TL.pure (PV.move rfl) rfl (by decide) ?_
    refine TL.pure (PV.fieldAddr rfl Tb.fo_24_0) rfl (by decide) ?_
    refine TL.pure (PV.load rfl Tb.one_3 (by repeat (first | exact List.Mem.head _ | refine List.Mem.tail _ ?_ | refine List.mem_append_right _ ?_)) rfl) rfl (by decide) ?_
    refine TL.pure (PV.sub rfl rfl (by omega)) rfl (by decide) ?_
    refine TL.call rfl Tb.gofn_66 (fun a w hs => within_ok w _ _ _) rfl (by decide) (fun _ _ => ?_)
    refine TL.pure ((by first | exact PV.notD rfl | exact PV.not rfl)) rfl (by decide) ?_
    refine TL.nil ?_
    refine TQ.thenC ?_
    first | refine TC.condD rfl (fun hpt => ?_) (fun hpt => ?_) | refine TC.cond rfl (fun hpt => ?_) (fun hpt => ?_)
    · skip
      refine TC.seq ?_
      refine TC.region ?_
      refine TL.pure (PV.assign rfl) rfl (by decide) ?_
      refine TL.pure (PV.assign rfl) rfl (by decide) ?_
      refine TL.pure (PV.assign rfl) rfl (by decide) ?_
      refine TL.nil ?_
      refine TQ.thenC ?_
      refine TC.ret ?_
      refine TQ.thenR ?_
      refine TQ.retE3 rfl rfl rfl rfl ?_
      first | exact ⟨(), wk_no (wk_1 hbad) hbad, trivial, List.nil_sublist _⟩ | exact ⟨(), wk_no (wk_2 hbad (decide_eq_false (by omega))) (by decide), trivial, List.nil_sublist _⟩ | exact ⟨(), wk_no (wk_3 hbad hpt1 (by omega)) (by decide), trivial, List.nil_sublist _⟩ | exact ⟨(), wk_no (wk_4 hbad hpt1 (by omega) (k := k) (by omega) (decide_eq_false (by omega))) (by decide), trivial, List.nil_sublist _⟩ | exact ⟨(), wk_no (wk_9 hbad hpt1 (by omega) hsp (k := k) (by omega) (decide_eq_false (by omega))) (by decide), trivial, List.nil_sublist _⟩ | (have hse : k = ws.length := (by omega); subst hse; exact ⟨(), wk_ok (wk_0 hbad hpt1 (by omega) hsp hk2.2), trivial, List.nil_sublist _⟩)
    · skip
      refine TC.skip ?_
      refine TQ.thenC ?_
      refine TC.seq ?_
      refine TC.seq ?_
      have hpt1 : isPointB n f = true := decide_eq_true (by omega)
      refine TC.region ?_
      refine TL.pure (PV.move rfl) rfl (by decide) ?_
      refine TL.pure (PV.len rfl Tb.sl_31) rfl (by decide) ?_
      refine TL.pure (PV.gtr rfl rfl) rfl (by decide) ?_
      refine TL.nil ?_
      refine TQ.thenC ?_
      first | refine TC.condD rfl (fun hlong => ?_) (fun hlong => ?_) | refine TC.cond rfl (fun hlong => ?_) (fun hlong => ?_)
      · skip
        refine TC.seq ?_
        refine TC.region ?_
        refine TL.pure (PV.assign rfl) rfl (by decide) ?_
        refine TL.pure (PV.assign rfl) rfl (by decide) ?_
        refine TL.pure (PV.assign rfl) rfl (by decide) ?_
        refine TL.nil ?_
        refine TQ.thenC ?_
        refine TC.ret ?_
        refine TQ.thenR ?_
        refine TQ.retE3 rfl rfl rfl rfl ?_
        first | exact ⟨(), wk_no (wk_1 hbad) hbad, trivial, List.nil_sublist _⟩ | exact ⟨(), wk_no (wk_2 hbad (decide_eq_false (by omega))) (by decide), trivial, List.nil_sublist _⟩ | exact ⟨(), wk_no (wk_3 hbad hpt1 (by omega)) (by decide), trivial, List.nil_sublist _⟩ | exact ⟨(), wk_no (wk_4 hbad hpt1 (by omega) (k := k) (by omega) (decide_eq_false (by omega))) (by decide), trivial, List.nil_sublist _⟩ | exact ⟨(), wk_no (wk_9 hbad hpt1 (by omega) hsp (k := k) (by omega) (decide_eq_false (by omega))) (by decide), trivial, List.nil_sublist _⟩ | (have hse : k = ws.length := (by omega); subst hse; exact ⟨(), wk_ok (wk_0 hbad hpt1 (by omega) hsp hk2.2), trivial, List.nil_sublist _⟩)
      · skip
        refine TC.skip ?_
        refine TQ.thenC ?_
        refine TC.seq ?_
        refine TC.seq ?_
        refine TC.region ?_
        refine TL.pure (PV.assign rfl) rfl (by decide) ?_
        refine TL.nil ?_
        refine TQ.thenC ?_
        refine TC.block ?_
        -- live and written in the loop, not told: [6, 7, 8]
        refine TC.loopG [1, 2, 3] (X := Nat) (fun k => k ≤ ws.length ∧ ∀ j, j < k → stpB rs (ws.getD j 0) = true) (fun k => [(10, .int .i64 k)]) (fun k => ws.length - k) 0 ⟨Nat.zero_le _, fun j hj => absurd hj (Nat.not_lt_zero _)⟩ (by repeat (first | exact True.intro | refine And.intro rfl ?_)) ?_
        intro k hk
        refine TC.seq ?_
        refine TC.seq ?_
        refine TC.region ?_
        refine TL.pure (PV.move rfl) rfl (by decide) ?_
        refine TL.pure (PV.move rfl) rfl (by decide) ?_
        refine TL.pure (PV.len rfl Tb.sl_31) rfl (by decide) ?_
        refine TL.pure (PV.lss rfl rfl) rfl (by decide) ?_
        refine TL.nil ?_
        refine TQ.thenC ?_
        first | refine TC.condD rfl (fun hlt => ?_) (fun hlt => ?_) | refine TC.cond rfl (fun hlt => ?_) (fun hlt => ?_)
        · skip
          refine TC.skip ?_
          refine TQ.thenC ?_
          refine TC.seq ?_
          refine TC.block ?_
          refine TC.seq ?_
          obtain ⟨q2, hq2p, hq2⟩ := hx k (by omega)
          refine TC.any Tb.mixed rfl rfl ?_
          refine TA.op (OpOK.pure (PV.move rfl) rfl (by decide)) (by decide) ?_
          refine TA.op (OpOK.pure (PV.move rfl) rfl (by decide)) (by decide) ?_
          refine TA.op (OpOK.pure (PV.indexA rfl hq2p rfl Tb.elm_31 rfl (by omega)) rfl (by decide)) (by decide) ?_
          refine TA.op (OpOK.pure (PV.loadOld rfl Tb.one_3 hq2) rfl (by decide)) (by decide) ?_
          refine TA.op (OpOK.pure (PV.eql rfl rfl) rfl (by decide)) (by decide) ?_
          refine TA.op (OpOK.pure (PV.move rfl) rfl (by decide)) (by decide) ?_
          first | refine TA.splitD 40 rfl (fun hz => ?_) (fun hz => ?_) | refine TA.split 40 rfl (fun hz => ?_) (fun hz => ?_)
          · skip
            refine TA.op (OpOK.skip rfl) (by decide) ?_
            refine TA.op (OpOK.skip rfl) (by decide) ?_
            refine TA.op (OpOK.skip rfl) (by decide) ?_
            refine TA.op (OpOK.skip rfl) (by decide) ?_
            refine TA.op (OpOK.skip rfl) (by decide) ?_
            refine TA.op (OpOK.skip rfl) (by decide) ?_
            refine TA.op (OpOK.skip rfl) (by decide) ?_
            refine TA.op (OpOK.skip rfl) (by decide) ?_
            refine TA.op (OpOK.skip rfl) (by decide) ?_
            refine TA.op (OpOK.skip rfl) (by decide) ?_
            refine TA.op (OpOK.skip rfl) (by decide) ?_
            refine TA.op (OpOK.skip rfl) (by decide) ?_
            refine TA.op (OpOK.skip rfl) (by decide) ?_
            refine TA.op (OpOK.pure (PV.pickT rfl rfl) rfl (by decide)) (by decide) ?_
            show TQ _ _ _ _ _
            refine TQ.thenC ?_
            refine TC.condT rfl ?_
            refine TC.seq ?_
            refine TC.region ?_
            refine TL.pure (PV.assign rfl) rfl (by decide) ?_
            refine TL.pure (PV.assign rfl) rfl (by decide) ?_
            refine TL.pure (PV.assign rfl) rfl (by decide) ?_
            refine TL.nil ?_
            refine TQ.thenC ?_
            refine TC.ret ?_
            refine TQ.blkR ?_
            refine TQ.thenR ?_
            refine TQ.thenR ?_
            refine TQ.blkR ?_
            refine TQ.thenR ?_
            refine TQ.retE3 rfl rfl rfl rfl ?_
            first | exact ⟨(), wk_no (wk_1 hbad) hbad, trivial, List.nil_sublist _⟩ | exact ⟨(), wk_no (wk_2 hbad (decide_eq_false (by omega))) (by decide), trivial, List.nil_sublist _⟩ | exact ⟨(), wk_no (wk_3 hbad hpt1 (by omega)) (by decide), trivial, List.nil_sublist _⟩ | exact ⟨(), wk_no (wk_4 hbad hpt1 (by omega) (k := k) (by omega) (decide_eq_false (by omega))) (by decide), trivial, List.nil_sublist _⟩ | exact ⟨(), wk_no (wk_9 hbad hpt1 (by omega) hsp (k := k) (by omega) (decide_eq_false (by omega))) (by decide), trivial, List.nil_sublist _⟩ | (have hse : k = ws.length := (by omega); subst hse; exact ⟨(), wk_ok (wk_0 hbad hpt1 (by omega) hsp hk2.2), trivial, List.nil_sublist _⟩)
          · skip
            refine TA.op (OpOK.pure (PV.move rfl) rfl (by decide)) (by decide) ?_
            refine TA.op (OpOK.pure (PV.move rfl) rfl (by decide)) (by decide) ?_
            refine TA.op (OpOK.pure (PV.indexA rfl hq2p rfl Tb.elm_31 rfl (by omega)) rfl (by decide)) (by decide) ?_
            refine TA.op (OpOK.pure (PV.loadOld rfl Tb.one_3 hq2) rfl (by decide)) (by decide) ?_
            refine TA.op (OpOK.pure (PV.fieldAddr rfl Tb.fo_24_1) rfl (by decide)) (by decide) ?_
            refine TA.op (OpOK.pure (PV.load rfl Tb.one_22 (by repeat (first | exact List.Mem.head _ | refine List.Mem.tail _ ?_ | refine List.mem_append_right _ ?_)) rfl) rfl (by decide)) (by decide) ?_
            refine TA.op (OpOK.pure (PV.len rfl Tb.sl_22) rfl (by decide)) (by decide) ?_
            refine TA.op (OpOK.pure (PV.neg rfl (by omega)) rfl (by decide)) (by decide) ?_
            refine TA.op (OpOK.pure (PV.fieldAddr rfl Tb.fo_24_1) rfl (by decide)) (by decide) ?_
            refine TA.op (OpOK.pure (PV.load rfl Tb.one_22 (by repeat (first | exact List.Mem.head _ | refine List.Mem.tail _ ?_ | refine List.mem_append_right _ ?_)) rfl) rfl (by decide)) (by decide) ?_
            refine TA.op (OpOK.pure (PV.len rfl Tb.sl_22) rfl (by decide)) (by decide) ?_
            refine TA.op (OpOK.call rfl Tb.gofn_66 (fun a w hs => within_ok w _ _ _) rfl (by decide)) (by decide) ?_
            refine TA.op (OpOK.pure ((by first | exact PV.notD rfl | exact PV.not rfl)) rfl (by decide)) (by decide) ?_
            refine TA.op (OpOK.pure (PV.pickF rfl rfl) rfl (by decide)) (by decide) ?_
            show TQ _ _ _ _ _
            refine TQ.thenC ?_
            first | refine TC.condD rfl (fun hst => ?_) (fun hst => ?_) | refine TC.cond rfl (fun hst => ?_) (fun hst => ?_)
            · skip
              refine TC.seq ?_
              refine TC.region ?_
              refine TL.pure (PV.assign rfl) rfl (by decide) ?_
              refine TL.pure (PV.assign rfl) rfl (by decide) ?_
              refine TL.pure (PV.assign rfl) rfl (by decide) ?_
              refine TL.nil ?_
              refine TQ.thenC ?_
              refine TC.ret ?_
              refine TQ.blkR ?_
              refine TQ.thenR ?_
              refine TQ.thenR ?_
              refine TQ.blkR ?_
              refine TQ.thenR ?_
              refine TQ.retE3 rfl rfl rfl rfl ?_
              first | exact ⟨(), wk_no (wk_1 hbad) hbad, trivial, List.nil_sublist _⟩ | exact ⟨(), wk_no (wk_2 hbad (decide_eq_false (by omega))) (by decide), trivial, List.nil_sublist _⟩ | exact ⟨(), wk_no (wk_3 hbad hpt1 (by omega)) (by decide), trivial, List.nil_sublist _⟩ | exact ⟨(), wk_no (wk_4 hbad hpt1 (by omega) (k := k) (by omega) (decide_eq_false (by omega))) (by decide), trivial, List.nil_sublist _⟩ | exact ⟨(), wk_no (wk_9 hbad hpt1 (by omega) hsp (k := k) (by omega) (decide_eq_false (by omega))) (by decide), trivial, List.nil_sublist _⟩ | (have hse : k = ws.length := (by omega); subst hse; exact ⟨(), wk_ok (wk_0 hbad hpt1 (by omega) hsp hk2.2), trivial, List.nil_sublist _⟩)
            · skip
              refine TC.skip ?_
              refine TQ.blkN ?_
              refine TQ.thenC ?_
              refine TC.region ?_
              refine TL.pure (PV.move rfl) rfl (by decide) ?_
              refine TL.pure (PV.add rfl rfl (by omega)) rfl (by decide) ?_
              refine TL.pure (PV.assign rfl) rfl (by decide) ?_
              refine TL.nil ?_
              refine TQ.thenN ?_
              refine TQ.backK (k + 1) (by repeat (first | exact True.intro | refine And.intro rfl ?_)) (by repeat (first | exact True.intro | refine And.intro rfl ?_)) (by repeat (first | exact List.Sublist.slnil | exact List.nil_sublist _ | exact List.Sublist.refl _ | refine List.Sublist.cons_cons _ ?_ | refine List.Sublist.cons _ ?_ | refine List.Sublist.trans ?_ (List.sublist_append_right _ _))) ⟨by omega, fun j hj => if e : j < k then hk.2 j e else (show k = j by omega) ▸ decide_eq_true (by omega)⟩ (by omega)
        · skip
          refine TC.exit ?_
          refine TQ.thenE ?_
          refine TQ.thenE ?_
          refine TQ.blkS ?_
          refine TQ.thenC ?_
          refine TC.seq ?_
          have hsp : ∀ j, j < ws.length → stpB rs (ws.getD j 0) = true := fun j hj => hk.2 j (by omega)
          refine TC.region ?_
          refine TL.pure (PV.move rfl) rfl (by decide) ?_
          refine TL.pure (PV.assign rfl) rfl (by decide) ?_
          refine TL.pure (PV.assign rfl) rfl (by decide) ?_
          refine TL.nil ?_
          refine TQ.thenC ?_
          refine TC.seq ?_
          refine TC.seq ?_
          refine TC.region ?_
          refine TL.pure (PV.assign rfl) rfl (by decide) ?_
          refine TL.nil ?_
          refine TQ.thenC ?_
          refine TC.block ?_
          -- live and written in the loop, not told: [6, 7, 8]
          refine TC.loopG [2, 3] (X := Nat) (fun k => k ≤ ws.length ∧ ∀ j, j < k → chW rs f ws j = true) (fun k => [(13, .int .i64 k), (11, .int .i64 (atW rs f ws k)), (12, .int .i64 (riW rs ws k))]) (fun k => ws.length - k) 0 ⟨Nat.zero_le _, fun j hj => absurd hj (Nat.not_lt_zero _)⟩ (by repeat (first | exact True.intro | refine And.intro rfl ?_)) ?_
          intro k hk2
          refine TC.seq ?_
          refine TC.seq ?_
          refine TC.region ?_
          refine TL.pure (PV.move rfl) rfl (by decide) ?_
          refine TL.pure (PV.move rfl) rfl (by decide) ?_
          refine TL.pure (PV.len rfl Tb.sl_31) rfl (by decide) ?_
          refine TL.pure (PV.lss rfl rfl) rfl (by decide) ?_
          refine TL.nil ?_
          refine TQ.thenC ?_
          first | refine TC.condD rfl (fun hlt2 => ?_) (fun hlt2 => ?_) | refine TC.cond rfl (fun hlt2 => ?_) (fun hlt2 => ?_)
          · skip
            refine TC.skip ?_
            refine TQ.thenC ?_
            refine TC.seq ?_
            refine TC.block ?_
            refine TC.seq ?_
            obtain ⟨q2, hq2p, hq2⟩ := hx k (by omega)
            have hst1 := stp_is (hsp k (by omega))
            have hri := riW_bd hv hsp k (by omega)
            have hla := leg_at hv (hsp k (by omega))
            obtain ⟨j, hj⟩ : ∃ j : Nat, max (ws.getD k 0) (-(ws.getD k 0)) - 1 = (j : Int) := ⟨(max (ws.getD k 0) (-(ws.getD k 0)) - 1).toNat, by omega⟩
            obtain ⟨q3, hq3p, hq3⟩ := hr j (by omega)
            have hra := (hv.at (k := j) (by omega)).2.2.2.1
            refine TC.mix [true, true, true, true, true, true, true, true, true, true, true, true, true, true, true, false, false] _ 2 Tb.mixed rfl (by kernel_rfl) (by kernel_rfl) (by kernel_rfl) (by kernel_rfl) (List.Sublist.refl _) ?_
            refine TB.op (SOK.pure (PV.fieldAddr rfl Tb.fo_24_1) rfl) (by decide) ?_
            refine TB.op (SOK.pure (PV.load rfl Tb.one_22 (by repeat (first | exact List.Mem.head _ | refine List.Mem.tail _ ?_ | refine List.mem_append_right _ ?_)) rfl) rfl) (by decide) ?_
            refine TB.op (SOK.pure (PV.move rfl) rfl) (by decide) ?_
            refine TB.op (SOK.pure (PV.move rfl) rfl) (by decide) ?_
            refine TB.op (SOK.pure (PV.indexA rfl hq2p rfl Tb.elm_31 rfl (by omega)) rfl) (by decide) ?_
            refine TB.op (SOK.pure (PV.loadOld rfl Tb.one_3 hq2) rfl) (by decide) ?_
            refine TB.op (SOK.pure (PV.move rfl) rfl) (by decide) ?_
            refine TB.op (SOK.pure (PV.move rfl) rfl) (by decide) ?_
            refine TB.op (SOK.pure (PV.indexA rfl hq2p rfl Tb.elm_31 rfl (by omega)) rfl) (by decide) ?_
            refine TB.op (SOK.pure (PV.loadOld rfl Tb.one_3 hq2) rfl) (by decide) ?_
            refine TB.op (SOK.pure (PV.neg rfl (by omega)) rfl) (by decide) ?_
            refine TB.op (SOK.pure (PV.max rfl rfl Tb.int_3) rfl) (by decide) ?_
            refine TB.op (SOK.pure (PV.sub rfl rfl (by omega)) rfl) (by decide) ?_
            refine TB.op (SOK.pure (PV.indexA (j := j) rfl hq3p rfl Tb.elm_22 hj (by omega)) rfl) (by decide) ?_
            refine TB.op (SOK.pure (PV.loadAggA rfl Tb.agg_61 rfl hq3) rfl) (by decide) ?_
            refine TB.no ?_
            refine TB.no ?_
            refine TB.fin ?_
            refine TX.step [15] (by kernel_rfl) (by decide) ⟨⟨_, rfl, ?_⟩, trivial⟩
            refine TL.alloc Tb.zero_61 rfl (by decide) (fun b1 hb1 => ?_)
            refine TL.nil ?_
            refine TX.next (.inl (by repeat (first | exact List.Sublist.slnil | exact List.nil_sublist _ | exact List.Sublist.refl _ | refine List.Sublist.cons_cons _ ?_ | refine List.Sublist.cons _ ?_ | refine List.Sublist.trans ?_ (List.sublist_append_right _ _)))) ?_
            refine TX.step [16] (by kernel_rfl) (by decide) ⟨⟨_, rfl, ?_⟩, trivial⟩
            refine TL.storeAgg rfl rfl Tb.cells_61 (by repeat (first | exact Upd.head _ | apply Upd.tail | apply Upd.appR)) rfl rfl rfl rfl rfl ?_
            refine TL.nil ?_
            refine TX.next (.inr (by kernel_rfl)) ?_
            refine TX.done (by kernel_rfl) ?_
            refine TQ.thenC ?_
            refine TC.seq ?_
            refine TC.seq ?_
            refine TC.region ?_
            refine TL.pure (PV.move rfl) rfl (by decide) ?_
            refine TL.pure (PV.move rfl) rfl (by decide) ?_
            refine TL.pure (PV.indexA rfl hq2p rfl Tb.elm_31 rfl (by omega)) rfl (by decide) ?_
            refine TL.pure (PV.loadOld rfl Tb.one_3 hq2) rfl (by decide) ?_
            refine TL.pure (PV.lss rfl rfl) rfl (by decide) ?_
            refine TL.nil ?_
            refine TQ.thenC ?_
            first | refine TC.condD rfl (fun hneg => ?_) (fun hneg => ?_) | refine TC.cond rfl (fun hneg => ?_) (fun hneg => ?_)
            · skip
              have hlg : legR rs (ws.getD k 0) = turnR (rs.getD j default) := by rw [legR_neg (by omega), show (-(ws.getD k 0) - 1).toNat = j by omega]
              rw [hlg] at hla
              obtain ⟨e1, e2, e3⟩ : (legR rs (ws.getD k 0)).fr = (rs.getD j default).to ∧ (legR rs (ws.getD k 0)).to = (rs.getD j default).fr ∧ (legR rs (ws.getD k 0)).rise = -(rs.getD j default).rise := by rw [hlg]; exact ⟨rfl, rfl, rfl⟩
              refine TC.region ?_
              refine TL.pure (PV.fieldAddr rfl Tb.fo_61_1) rfl (by decide) ?_
              refine TL.pure (PV.load rfl Tb.one_3 (by repeat (first | exact List.Mem.head _ | refine List.Mem.tail _ ?_ | refine List.mem_append_right _ ?_)) rfl) rfl (by decide) ?_
              refine TL.pure (PV.fieldAddr rfl Tb.fo_61_0) rfl (by decide) ?_
              refine TL.pure (PV.load rfl Tb.one_3 (by repeat (first | exact List.Mem.head _ | refine List.Mem.tail _ ?_ | refine List.mem_append_right _ ?_)) rfl) rfl (by decide) ?_
              refine TL.pure (PV.fieldAddr rfl Tb.fo_61_2) rfl (by decide) ?_
              refine TL.pure (PV.load rfl Tb.one_3 (by repeat (first | exact List.Mem.head _ | refine List.Mem.tail _ ?_ | refine List.mem_append_right _ ?_)) rfl) rfl (by decide) ?_
              refine TL.pure (PV.neg rfl (by omega)) rfl (by decide) ?_
              refine TL.pure (PV.build (cs := #[.int .i64 (rs.getD j default).to, .int .i64 (rs.getD j default).fr, .int .i64 (-(rs.getD j default).rise), .int .i64 0]) rfl Tb.zero_61 Tb.pl_61 rfl) rfl (by decide) ?_
              refine TL.storeAgg rfl rfl Tb.cells_61 (by repeat (first | exact Upd.head _ | apply Upd.tail | apply Upd.appR)) rfl rfl rfl rfl rfl ?_
              refine TL.nil ?_
              refine TQ.thenC ?_
              refine TC.seq ?_
              refine TC.seq ?_
              refine TC.region ?_
              refine TL.pure (PV.fieldAddr rfl Tb.fo_61_0) rfl (by decide) ?_
              refine TL.pure (PV.load rfl Tb.one_3 (by repeat (first | exact List.Mem.head _ | refine List.Mem.tail _ ?_ | refine List.mem_append_right _ ?_)) rfl) rfl (by decide) ?_
              refine TL.pure (PV.move rfl) rfl (by decide) ?_
              refine TL.pure (PV.neq rfl rfl) rfl (by decide) ?_
              refine TL.nil ?_
              refine TQ.thenC ?_
              first | refine TC.condD rfl (fun hne => ?_) (fun hne => ?_) | refine TC.cond rfl (fun hne => ?_) (fun hne => ?_)
              · skip
                refine TC.seq ?_
                refine TC.region ?_
                refine TL.pure (PV.assign rfl) rfl (by decide) ?_
                refine TL.pure (PV.assign rfl) rfl (by decide) ?_
                refine TL.pure (PV.assign rfl) rfl (by decide) ?_
                refine TL.nil ?_
                refine TQ.thenC ?_
                refine TC.ret ?_
                refine TQ.thenR ?_
                refine TQ.blkR ?_
                refine TQ.thenR ?_
                refine TQ.thenR ?_
                refine TQ.blkR ?_
                refine TQ.thenR ?_
                refine TQ.retE3 rfl rfl rfl rfl ?_
                first | exact ⟨(), wk_no (wk_1 hbad) hbad, trivial, List.nil_sublist _⟩ | exact ⟨(), wk_no (wk_2 hbad (decide_eq_false (by omega))) (by decide), trivial, List.nil_sublist _⟩ | exact ⟨(), wk_no (wk_3 hbad hpt1 (by omega)) (by decide), trivial, List.nil_sublist _⟩ | exact ⟨(), wk_no (wk_4 hbad hpt1 (by omega) (k := k) (by omega) (decide_eq_false (by omega))) (by decide), trivial, List.nil_sublist _⟩ | exact ⟨(), wk_no (wk_9 hbad hpt1 (by omega) hsp (k := k) (by omega) (decide_eq_false (by omega))) (by decide), trivial, List.nil_sublist _⟩ | (have hse : k = ws.length := (by omega); subst hse; exact ⟨(), wk_ok (wk_0 hbad hpt1 (by omega) hsp hk2.2), trivial, List.nil_sublist _⟩)
              · skip
                refine TC.skip ?_
                refine TQ.thenC ?_
                refine TC.mixE [true, true, false, true, true, false, false, false] _ 4 Tb.mixed rfl (by kernel_rfl) (by kernel_rfl) (by kernel_rfl) (by kernel_rfl) (List.Sublist.refl _) ?_
                refine TY.op (SOK.pure (PV.fieldAddr rfl Tb.fo_61_1) rfl) (by decide) ?_
                refine TY.op (SOK.pure (PV.load rfl Tb.one_3 (by repeat (first | exact List.Mem.head _ | refine List.Mem.tail _ ?_ | refine List.mem_append_right _ ?_)) rfl) rfl) (by decide) ?_
                refine TY.no ?_
                refine TY.op (SOK.pure (PV.fieldAddr rfl Tb.fo_61_2) rfl) (by decide) ?_
                refine TY.op (SOK.pure (PV.load rfl Tb.one_3 (by repeat (first | exact List.Mem.head _ | refine List.Mem.tail _ ?_ | refine List.mem_append_right _ ?_)) rfl) rfl) (by decide) ?_
                refine TY.no ?_
                refine TY.no ?_
                refine TY.no ?_
                refine TY.fin ?_
                refine TX.step [2, 6] (by kernel_rfl) (by decide) ⟨⟨_, rfl, ?_⟩, ⟨_, rfl, ?_⟩, trivial⟩
                · skip
                  refine TL.pure (PV.move rfl) rfl (by decide) ?_
                  refine TL.nil ?_
                  refine TX.next (.inl (by repeat (first | exact List.Sublist.slnil | exact List.nil_sublist _ | exact List.Sublist.refl _ | refine List.Sublist.cons_cons _ ?_ | refine List.Sublist.cons _ ?_ | refine List.Sublist.trans ?_ (List.sublist_append_right _ _)))) ?_
                  refine TX.step [5, 6] (by kernel_rfl) (by decide) ⟨⟨_, rfl, ?_⟩, ⟨_, rfl, ?_⟩, trivial⟩
                  · skip
                    refine TL.pure (PV.add rfl rfl (by omega)) rfl (by decide) ?_
                    refine TL.nil ?_
                    refine TX.next (.inl (by repeat (first | exact List.Sublist.slnil | exact List.nil_sublist _ | exact List.Sublist.refl _ | refine List.Sublist.cons_cons _ ?_ | refine List.Sublist.cons _ ?_ | refine List.Sublist.trans ?_ (List.sublist_append_right _ _)))) ?_
                    refine TX.step [6] (by kernel_rfl) (by decide) ⟨⟨_, rfl, ?_⟩, trivial⟩
                    refine TL.pure (PV.assign rfl) rfl (by decide) ?_
                    refine TL.nil ?_
                    refine TX.next (.inl (by repeat (first | exact List.Sublist.slnil | exact List.nil_sublist _ | exact List.Sublist.refl _ | refine List.Sublist.cons_cons _ ?_ | refine List.Sublist.cons _ ?_ | refine List.Sublist.trans ?_ (List.sublist_append_right _ _)))) ?_
                    refine TX.step [7] (by kernel_rfl) (by decide) ⟨⟨_, rfl, ?_⟩, trivial⟩
                    refine TL.pure (PV.assign rfl) rfl (by decide) ?_
                    refine TL.nil ?_
                    refine TX.next (.inr (by kernel_rfl)) ?_
                    refine TX.done (by kernel_rfl) ?_
                    refine TQ.blkN ?_
                    refine TQ.thenC ?_
                    refine TC.region ?_
                    refine TL.pure (PV.move rfl) rfl (by decide) ?_
                    refine TL.pure (PV.add rfl rfl (by omega)) rfl (by decide) ?_
                    refine TL.pure (PV.assign rfl) rfl (by decide) ?_
                    refine TL.nil ?_
                    refine TQ.thenN ?_
                    refine TQ.backK (k + 1) (by refine ⟨rfl, ?_, ?_, trivial⟩; · { show _ = some (Value.int .i64 (legR rs (ws.getD k 0)).to); rw [e2]; rfl }; · { show _ = some (Value.int .i64 (riW rs ws k + (legR rs (ws.getD k 0)).rise)); rw [e3]; rfl }) (by repeat (first | exact True.intro | refine And.intro rfl ?_)) (by repeat (first | exact List.Sublist.slnil | exact List.nil_sublist _ | exact List.Sublist.refl _ | refine List.Sublist.cons_cons _ ?_ | refine List.Sublist.cons _ ?_ | refine List.Sublist.trans ?_ (List.sublist_append_right _ _))) ⟨by omega, fun j hj => if e : j < k then hk2.2 j e else (show k = j by omega) ▸ decide_eq_true (by omega)⟩ (by omega)
                  · skip
                    refine TL.pure (PV.assign rfl) rfl (by decide) ?_
                    refine TL.nil ?_
                    refine TX.next (.inl (by repeat (first | exact List.Sublist.slnil | exact List.nil_sublist _ | exact List.Sublist.refl _ | refine List.Sublist.cons_cons _ ?_ | refine List.Sublist.cons _ ?_ | refine List.Sublist.trans ?_ (List.sublist_append_right _ _)))) ?_
                    refine TX.step [5] (by kernel_rfl) (by decide) ⟨⟨_, rfl, ?_⟩, trivial⟩
                    refine TL.pure (PV.add rfl rfl (by omega)) rfl (by decide) ?_
                    refine TL.nil ?_
                    refine TX.next (.inl (by repeat (first | exact List.Sublist.slnil | exact List.nil_sublist _ | exact List.Sublist.refl _ | refine List.Sublist.cons_cons _ ?_ | refine List.Sublist.cons _ ?_ | refine List.Sublist.trans ?_ (List.sublist_append_right _ _)))) ?_
                    refine TX.step [7] (by kernel_rfl) (by decide) ⟨⟨_, rfl, ?_⟩, trivial⟩
                    refine TL.pure (PV.assign rfl) rfl (by decide) ?_
                    refine TL.nil ?_
                    refine TX.next (.inr (by kernel_rfl)) ?_
                    refine TX.done (by kernel_rfl) ?_
                    refine TQ.blkN ?_
                    refine TQ.thenC ?_
                    refine TC.region ?_
                    refine TL.pure (PV.move rfl) rfl (by decide) ?_
                    refine TL.pure (PV.add rfl rfl (by omega)) rfl (by decide) ?_
                    refine TL.pure (PV.assign rfl) rfl (by decide) ?_
                    refine TL.nil ?_
                    refine TQ.thenN ?_
                    refine TQ.backK (k + 1) (by refine ⟨rfl, ?_, ?_, trivial⟩; · { show _ = some (Value.int .i64 (legR rs (ws.getD k 0)).to); rw [e2]; rfl }; · { show _ = some (Value.int .i64 (riW rs ws k + (legR rs (ws.getD k 0)).rise)); rw [e3]; rfl }) (by repeat (first | exact True.intro | refine And.intro rfl ?_)) (by repeat (first | exact List.Sublist.slnil | exact List.nil_sublist _ | exact List.Sublist.refl _ | refine List.Sublist.cons_cons _ ?_ | refine List.Sublist.cons _ ?_ | refine List.Sublist.trans ?_ (List.sublist_append_right _ _))) ⟨by omega, fun j hj => if e : j < k then hk2.2 j e else (show k = j by omega) ▸ decide_eq_true (by omega)⟩ (by omega)
                · skip
                  refine TL.pure (PV.assign rfl) rfl (by decide) ?_
                  refine TL.nil ?_
                  refine TX.next (.inl (by repeat (first | exact List.Sublist.slnil | exact List.nil_sublist _ | exact List.Sublist.refl _ | refine List.Sublist.cons_cons _ ?_ | refine List.Sublist.cons _ ?_ | refine List.Sublist.trans ?_ (List.sublist_append_right _ _)))) ?_
                  refine TX.step [2] (by kernel_rfl) (by decide) ⟨⟨_, rfl, ?_⟩, trivial⟩
                  refine TL.pure (PV.move rfl) rfl (by decide) ?_
                  refine TL.nil ?_
                  refine TX.next (.inl (by repeat (first | exact List.Sublist.slnil | exact List.nil_sublist _ | exact List.Sublist.refl _ | refine List.Sublist.cons_cons _ ?_ | refine List.Sublist.cons _ ?_ | refine List.Sublist.trans ?_ (List.sublist_append_right _ _)))) ?_
                  refine TX.step [5] (by kernel_rfl) (by decide) ⟨⟨_, rfl, ?_⟩, trivial⟩
                  refine TL.pure (PV.add rfl rfl (by omega)) rfl (by decide) ?_
                  refine TL.nil ?_
                  refine TX.next (.inl (by repeat (first | exact List.Sublist.slnil | exact List.nil_sublist _ | exact List.Sublist.refl _ | refine List.Sublist.cons_cons _ ?_ | refine List.Sublist.cons _ ?_ | refine List.Sublist.trans ?_ (List.sublist_append_right _ _)))) ?_
                  refine TX.step [7] (by kernel_rfl) (by decide) ⟨⟨_, rfl, ?_⟩, trivial⟩
                  refine TL.pure (PV.assign rfl) rfl (by decide) ?_
                  refine TL.nil ?_
                  refine TX.next (.inr (by kernel_rfl)) ?_
                  refine TX.done (by kernel_rfl) ?_
                  refine TQ.blkN ?_
                  refine TQ.thenC ?_
                  refine TC.region ?_
                  refine TL.pure (PV.move rfl) rfl (by decide) ?_
                  refine TL.pure (PV.add rfl rfl (by omega)) rfl (by decide) ?_
                  refine TL.pure (PV.assign rfl) rfl (by decide) ?_
                  refine TL.nil ?_
                  refine TQ.thenN ?_
                  refine TQ.backK (k + 1) (by refine ⟨rfl, ?_, ?_, trivial⟩; · { show _ = some (Value.int .i64 (legR rs (ws.getD k 0)).to); rw [e2]; rfl }; · { show _ = some (Value.int .i64 (riW rs ws k + (legR rs (ws.getD k 0)).rise)); rw [e3]; rfl }) (by repeat (first | exact True.intro | refine And.intro rfl ?_)) (by repeat (first | exact List.Sublist.slnil | exact List.nil_sublist _ | exact List.Sublist.refl _ | refine List.Sublist.cons_cons _ ?_ | refine List.Sublist.cons _ ?_ | refine List.Sublist.trans ?_ (List.sublist_append_right _ _))) ⟨by omega, fun j hj => if e : j < k then hk2.2 j e else (show k = j by omega) ▸ decide_eq_true (by omega)⟩ (by omega)
            · skip
              have hlg : legR rs (ws.getD k 0) = rs.getD j default := by rw [legR_pos (by omega), show (ws.getD k 0 - 1).toNat = j by omega]
              rw [hlg] at hla
              obtain ⟨e1, e2, e3⟩ : (legR rs (ws.getD k 0)).fr = (rs.getD j default).fr ∧ (legR rs (ws.getD k 0)).to = (rs.getD j default).to ∧ (legR rs (ws.getD k 0)).rise = (rs.getD j default).rise := by rw [hlg]; exact ⟨rfl, rfl, rfl⟩
              refine TC.skip ?_
              refine TQ.thenC ?_
              refine TC.seq ?_
              refine TC.seq ?_
              refine TC.region ?_
              refine TL.pure (PV.fieldAddr rfl Tb.fo_61_0) rfl (by decide) ?_
              refine TL.pure (PV.load rfl Tb.one_3 (by repeat (first | exact List.Mem.head _ | refine List.Mem.tail _ ?_ | refine List.mem_append_right _ ?_)) rfl) rfl (by decide) ?_
              refine TL.pure (PV.move rfl) rfl (by decide) ?_
              refine TL.pure (PV.neq rfl rfl) rfl (by decide) ?_
              refine TL.nil ?_
              refine TQ.thenC ?_
              first | refine TC.condD rfl (fun hne => ?_) (fun hne => ?_) | refine TC.cond rfl (fun hne => ?_) (fun hne => ?_)
              · skip
                refine TC.seq ?_
                refine TC.region ?_
                refine TL.pure (PV.assign rfl) rfl (by decide) ?_
                refine TL.pure (PV.assign rfl) rfl (by decide) ?_
                refine TL.pure (PV.assign rfl) rfl (by decide) ?_
                refine TL.nil ?_
                refine TQ.thenC ?_
                refine TC.ret ?_
                refine TQ.thenR ?_
                refine TQ.blkR ?_
                refine TQ.thenR ?_
                refine TQ.thenR ?_
                refine TQ.blkR ?_
                refine TQ.thenR ?_
                refine TQ.retE3 rfl rfl rfl rfl ?_
                first | exact ⟨(), wk_no (wk_1 hbad) hbad, trivial, List.nil_sublist _⟩ | exact ⟨(), wk_no (wk_2 hbad (decide_eq_false (by omega))) (by decide), trivial, List.nil_sublist _⟩ | exact ⟨(), wk_no (wk_3 hbad hpt1 (by omega)) (by decide), trivial, List.nil_sublist _⟩ | exact ⟨(), wk_no (wk_4 hbad hpt1 (by omega) (k := k) (by omega) (decide_eq_false (by omega))) (by decide), trivial, List.nil_sublist _⟩ | exact ⟨(), wk_no (wk_9 hbad hpt1 (by omega) hsp (k := k) (by omega) (decide_eq_false (by omega))) (by decide), trivial, List.nil_sublist _⟩ | (have hse : k = ws.length := (by omega); subst hse; exact ⟨(), wk_ok (wk_0 hbad hpt1 (by omega) hsp hk2.2), trivial, List.nil_sublist _⟩)
              · skip
                refine TC.skip ?_
                refine TQ.thenC ?_
                refine TC.mixE [true, true, false, true, true, false, false, false] _ 4 Tb.mixed rfl (by kernel_rfl) (by kernel_rfl) (by kernel_rfl) (by kernel_rfl) (List.Sublist.refl _) ?_
                refine TY.op (SOK.pure (PV.fieldAddr rfl Tb.fo_61_1) rfl) (by decide) ?_
                refine TY.op (SOK.pure (PV.load rfl Tb.one_3 (by repeat (first | exact List.Mem.head _ | refine List.Mem.tail _ ?_ | refine List.mem_append_right _ ?_)) rfl) rfl) (by decide) ?_
                refine TY.no ?_
                refine TY.op (SOK.pure (PV.fieldAddr rfl Tb.fo_61_2) rfl) (by decide) ?_
                refine TY.op (SOK.pure (PV.load rfl Tb.one_3 (by repeat (first | exact List.Mem.head _ | refine List.Mem.tail _ ?_ | refine List.mem_append_right _ ?_)) rfl) rfl) (by decide) ?_
                refine TY.no ?_
                refine TY.no ?_
                refine TY.no ?_
                refine TY.fin ?_
                refine TX.step [2, 6] (by kernel_rfl) (by decide) ⟨⟨_, rfl, ?_⟩, ⟨_, rfl, ?_⟩, trivial⟩
                · skip
                  refine TL.pure (PV.move rfl) rfl (by decide) ?_
                  refine TL.nil ?_
                  refine TX.next (.inl (by repeat (first | exact List.Sublist.slnil | exact List.nil_sublist _ | exact List.Sublist.refl _ | refine List.Sublist.cons_cons _ ?_ | refine List.Sublist.cons _ ?_ | refine List.Sublist.trans ?_ (List.sublist_append_right _ _)))) ?_
                  refine TX.step [5, 6] (by kernel_rfl) (by decide) ⟨⟨_, rfl, ?_⟩, ⟨_, rfl, ?_⟩, trivial⟩
                  · skip
                    refine TL.pure (PV.add rfl rfl (by omega)) rfl (by decide) ?_
                    refine TL.nil ?_
                    refine TX.next (.inl (by repeat (first | exact List.Sublist.slnil | exact List.nil_sublist _ | exact List.Sublist.refl _ | refine List.Sublist.cons_cons _ ?_ | refine List.Sublist.cons _ ?_ | refine List.Sublist.trans ?_ (List.sublist_append_right _ _)))) ?_
                    refine TX.step [6] (by kernel_rfl) (by decide) ⟨⟨_, rfl, ?_⟩, trivial⟩
                    refine TL.pure (PV.assign rfl) rfl (by decide) ?_
                    refine TL.nil ?_
                    refine TX.next (.inl (by repeat (first | exact List.Sublist.slnil | exact List.nil_sublist _ | exact List.Sublist.refl _ | refine List.Sublist.cons_cons _ ?_ | refine List.Sublist.cons _ ?_ | refine List.Sublist.trans ?_ (List.sublist_append_right _ _)))) ?_
                    refine TX.step [7] (by kernel_rfl) (by decide) ⟨⟨_, rfl, ?_⟩, trivial⟩
                    refine TL.pure (PV.assign rfl) rfl (by decide) ?_
                    refine TL.nil ?_
                    refine TX.next (.inr (by kernel_rfl)) ?_
                    refine TX.done (by kernel_rfl) ?_
                    refine TQ.blkN ?_
                    refine TQ.thenC ?_
                    refine TC.region ?_
                    refine TL.pure (PV.move rfl) rfl (by decide) ?_
                    refine TL.pure (PV.add rfl rfl (by omega)) rfl (by decide) ?_
                    refine TL.pure (PV.assign rfl) rfl (by decide) ?_
                    refine TL.nil ?_
                    refine TQ.thenN ?_
                    refine TQ.backK (k + 1) (by refine ⟨rfl, ?_, ?_, trivial⟩; · { show _ = some (Value.int .i64 (legR rs (ws.getD k 0)).to); rw [e2]; rfl }; · { show _ = some (Value.int .i64 (riW rs ws k + (legR rs (ws.getD k 0)).rise)); rw [e3]; rfl }) (by repeat (first | exact True.intro | refine And.intro rfl ?_)) (by repeat (first | exact List.Sublist.slnil | exact List.nil_sublist _ | exact List.Sublist.refl _ | refine List.Sublist.cons_cons _ ?_ | refine List.Sublist.cons _ ?_ | refine List.Sublist.trans ?_ (List.sublist_append_right _ _))) ⟨by omega, fun j hj => if e : j < k then hk2.2 j e else (show k = j by omega) ▸ decide_eq_true (by omega)⟩ (by omega)
                  · skip
                    refine TL.pure (PV.assign rfl) rfl (by decide) ?_
                    refine TL.nil ?_
                    refine TX.next (.inl (by repeat (first | exact List.Sublist.slnil | exact List.nil_sublist _ | exact List.Sublist.refl _ | refine List.Sublist.cons_cons _ ?_ | refine List.Sublist.cons _ ?_ | refine List.Sublist.trans ?_ (List.sublist_append_right _ _)))) ?_
                    refine TX.step [5] (by kernel_rfl) (by decide) ⟨⟨_, rfl, ?_⟩, trivial⟩
                    refine TL.pure (PV.add rfl rfl (by omega)) rfl (by decide) ?_
                    refine TL.nil ?_
                    refine TX.next (.inl (by repeat (first | exact List.Sublist.slnil | exact List.nil_sublist _ | exact List.Sublist.refl _ | refine List.Sublist.cons_cons _ ?_ | refine List.Sublist.cons _ ?_ | refine List.Sublist.trans ?_ (List.sublist_append_right _ _)))) ?_
                    refine TX.step [7] (by kernel_rfl) (by decide) ⟨⟨_, rfl, ?_⟩, trivial⟩
                    refine TL.pure (PV.assign rfl) rfl (by decide) ?_
                    refine TL.nil ?_
                    refine TX.next (.inr (by kernel_rfl)) ?_
                    refine TX.done (by kernel_rfl) ?_
                    refine TQ.blkN ?_
                    refine TQ.thenC ?_
                    refine TC.region ?_
                    refine TL.pure (PV.move rfl) rfl (by decide) ?_
                    refine TL.pure (PV.add rfl rfl (by omega)) rfl (by decide) ?_
                    refine TL.pure (PV.assign rfl) rfl (by decide) ?_
                    refine TL.nil ?_
                    refine TQ.thenN ?_
                    refine TQ.backK (k + 1) (by refine ⟨rfl, ?_, ?_, trivial⟩; · { show _ = some (Value.int .i64 (legR rs (ws.getD k 0)).to); rw [e2]; rfl }; · { show _ = some (Value.int .i64 (riW rs ws k + (legR rs (ws.getD k 0)).rise)); rw [e3]; rfl }) (by repeat (first | exact True.intro | refine And.intro rfl ?_)) (by repeat (first | exact List.Sublist.slnil | exact List.nil_sublist _ | exact List.Sublist.refl _ | refine List.Sublist.cons_cons _ ?_ | refine List.Sublist.cons _ ?_ | refine List.Sublist.trans ?_ (List.sublist_append_right _ _))) ⟨by omega, fun j hj => if e : j < k then hk2.2 j e else (show k = j by omega) ▸ decide_eq_true (by omega)⟩ (by omega)
                · skip
                  refine TL.pure (PV.assign rfl) rfl (by decide) ?_
                  refine TL.nil ?_
                  refine TX.next (.inl (by repeat (first | exact List.Sublist.slnil | exact List.nil_sublist _ | exact List.Sublist.refl _ | refine List.Sublist.cons_cons _ ?_ | refine List.Sublist.cons _ ?_ | refine List.Sublist.trans ?_ (List.sublist_append_right _ _)))) ?_
                  refine TX.step [2] (by kernel_rfl) (by decide) ⟨⟨_, rfl, ?_⟩, trivial⟩
                  refine TL.pure (PV.move rfl) rfl (by decide) ?_
                  refine TL.nil ?_
                  refine TX.next (.inl (by repeat (first | exact List.Sublist.slnil | exact List.nil_sublist _ | exact List.Sublist.refl _ | refine List.Sublist.cons_cons _ ?_ | refine List.Sublist.cons _ ?_ | refine List.Sublist.trans ?_ (List.sublist_append_right _ _)))) ?_
                  refine TX.step [5] (by kernel_rfl) (by decide) ⟨⟨_, rfl, ?_⟩, trivial⟩
                  refine TL.pure (PV.add rfl rfl (by omega)) rfl (by decide) ?_
                  refine TL.nil ?_
                  refine TX.next (.inl (by repeat (first | exact List.Sublist.slnil | exact List.nil_sublist _ | exact List.Sublist.refl _ | refine List.Sublist.cons_cons _ ?_ | refine List.Sublist.cons _ ?_ | refine List.Sublist.trans ?_ (List.sublist_append_right _ _)))) ?_
                  refine TX.step [7] (by kernel_rfl) (by decide) ⟨⟨_, rfl, ?_⟩, trivial⟩
                  refine TL.pure (PV.assign rfl) rfl (by decide) ?_
                  refine TL.nil ?_
                  refine TX.next (.inr (by kernel_rfl)) ?_
                  refine TX.done (by kernel_rfl) ?_
                  refine TQ.blkN ?_
                  refine TQ.thenC ?_
                  refine TC.region ?_
                  refine TL.pure (PV.move rfl) rfl (by decide) ?_
                  refine TL.pure (PV.add rfl rfl (by omega)) rfl (by decide) ?_
                  refine TL.pure (PV.assign rfl) rfl (by decide) ?_
                  refine TL.nil ?_
                  refine TQ.thenN ?_
                  refine TQ.backK (k + 1) (by refine ⟨rfl, ?_, ?_, trivial⟩; · { show _ = some (Value.int .i64 (legR rs (ws.getD k 0)).to); rw [e2]; rfl }; · { show _ = some (Value.int .i64 (riW rs ws k + (legR rs (ws.getD k 0)).rise)); rw [e3]; rfl }) (by repeat (first | exact True.intro | refine And.intro rfl ?_)) (by repeat (first | exact List.Sublist.slnil | exact List.nil_sublist _ | exact List.Sublist.refl _ | refine List.Sublist.cons_cons _ ?_ | refine List.Sublist.cons _ ?_ | refine List.Sublist.trans ?_ (List.sublist_append_right _ _))) ⟨by omega, fun j hj => if e : j < k then hk2.2 j e else (show k = j by omega) ▸ decide_eq_true (by omega)⟩ (by omega)
          · skip
            refine TC.exit ?_
            refine TQ.thenE ?_
            refine TQ.thenE ?_
            refine TQ.blkS ?_
            refine TQ.thenC ?_
            refine TC.seq ?_
            refine TC.region ?_
            refine TL.pure (PV.move rfl) rfl (by decide) ?_
            refine TL.pure (PV.move rfl) rfl (by decide) ?_
            refine TL.pure (PV.assign rfl) rfl (by decide) ?_
            refine TL.pure (PV.assign rfl) rfl (by decide) ?_
            refine TL.pure (PV.assign rfl) rfl (by decide) ?_
            refine TL.nil ?_
            refine TQ.thenC ?_
            refine TC.ret ?_
            refine TQ.retE3 rfl rfl rfl rfl ?_
            first | exact ⟨(), wk_no (wk_1 hbad) hbad, trivial, List.nil_sublist _⟩ | exact ⟨(), wk_no (wk_2 hbad (decide_eq_false (by omega))) (by decide), trivial, List.nil_sublist _⟩ | exact ⟨(), wk_no (wk_3 hbad hpt1 (by omega)) (by decide), trivial, List.nil_sublist _⟩ | exact ⟨(), wk_no (wk_4 hbad hpt1 (by omega) (k := k) (by omega) (decide_eq_false (by omega))) (by decide), trivial, List.nil_sublist _⟩ | exact ⟨(), wk_no (wk_9 hbad hpt1 (by omega) hsp (k := k) (by omega) (decide_eq_false (by omega))) (by decide), trivial, List.nil_sublist _⟩ | (have hse : k = ws.length := (by omega); subst hse; exact ⟨(), wk_ok (wk_0 hbad hpt1 (by omega) hsp hk2.2), trivial, List.nil_sublist _⟩)

set_option maxRecDepth 100000 in
set_option maxHeartbeats 2000000 in
theorem levelWalks_ok (w0 : World) (n : Int) (p : Option Addr) (cap : Nat) (rs : List Rd) (hr : RdsAt w0 p rs) (f : Int) (hf : -9223372036854775808 ≤ f ∧ f ≤ 9223372036854775807) (pw : Option Addr) (cw : Nat) (ws : List Int) (hx : IntsAt w0 pw ws) :
    Calls Try.prog 5 #[sv n p rs.length cap, .int .i64 f, .slice pw ws.length cw] w0 (Post (X := Unit) (fun _ => .bool true) (fun _ => True) (fun _ => []) w0) := by
  obtain ⟨GG, hG⟩ := pot_any' n rs
  refine calls Try.func5 rfl (n := 79) rfl (by simp) ?_
  refine TC.seq ?_
  refine TC.region ?_
  refine TL.box rfl rfl (by decide) (fun b0 hb0 => ?_)
  refine TL.pure (PV.assign rfl) rfl (by decide) ?_
  refine TL.nil ?_
  refine TQ.thenC ?_
  refine TC.seq ?_
  refine TC.seq ?_
  refine TC.region ?_
  refine TL.pure (PV.loadBox rfl Tb.agg_24 (by repeat (first | exact List.Mem.head _ | refine List.Mem.tail _ ?_ | refine List.mem_append_right _ ?_)) rfl) rfl (by decide) ?_
  refine TL.call rfl Tb.gofn_17 (fun a w hs => long_ok w _ _ _ _) rfl (by decide) (fun _ _ => ?_)
  refine TL.pure (PV.move rfl) rfl (by decide) ?_
  first | refine TL.splitD 17 rfl (fun h0 => ?_) (fun h0 => ?_) | refine TL.split 17 rfl (fun h0 => ?_) (fun h0 => ?_)
  · skip
    refine TL.skip rfl (fun k hk => by cases hk; decide) ?_
    refine TL.skip rfl (fun k hk => by cases hk; decide) ?_
    refine TL.skip rfl (fun k hk => by cases hk; decide) ?_
    refine TL.pure (PV.pickT rfl rfl) rfl (by decide) ?_
    refine TL.nil ?_
    refine TQ.thenC ?_
    refine TC.condT rfl ?_
    refine TC.seq ?_
    refine TC.region ?_
    refine TL.call rfl Tb.gofn_18 (fun a w hs => known_ok w) rfl (by decide) (fun _ _ => ?_)
    refine TL.pure (PV.assign rfl) rfl (by decide) ?_
    refine TL.nil ?_
    refine TQ.thenC ?_
    refine TC.ret ?_
    refine TQ.thenR ?_
    refine TQ.retE1 rfl rfl ?_
    first | exact ⟨(), rfl, trivial, List.nil_sublist _⟩ | contradiction | (exfalso; omega) | (exfalso; (have h1 := hwv (by omega)); contradiction) | (exfalso; (have h1 := hbk (by omega) (by first | assumption | simp_all; done) (by omega)); omega) | (exfalso; simp_all; done)
  · skip
    refine TL.pure (PV.move rfl) rfl (by decide) ?_
    refine TL.pure (PV.len rfl Tb.sl_31) rfl (by decide) ?_
    refine TL.pure (PV.gtr rfl rfl) rfl (by decide) ?_
    refine TL.pure (PV.pickF rfl rfl) rfl (by decide) ?_
    refine TL.nil ?_
    refine TQ.thenC ?_
    first | refine TC.condD rfl (fun h1 => ?_) (fun h1 => ?_) | refine TC.cond rfl (fun h1 => ?_) (fun h1 => ?_)
    · skip
      refine TC.seq ?_
      refine TC.region ?_
      refine TL.call rfl Tb.gofn_18 (fun a w hs => known_ok w) rfl (by decide) (fun _ _ => ?_)
      refine TL.pure (PV.assign rfl) rfl (by decide) ?_
      refine TL.nil ?_
      refine TQ.thenC ?_
      refine TC.ret ?_
      refine TQ.thenR ?_
      refine TQ.retE1 rfl rfl ?_
      first | exact ⟨(), rfl, trivial, List.nil_sublist _⟩ | contradiction | (exfalso; omega) | (exfalso; (have h1 := hwv (by omega)); contradiction) | (exfalso; (have h1 := hbk (by omega) (by first | assumption | simp_all; done) (by omega)); omega) | (exfalso; simp_all; done)
    · skip
      refine TC.skip ?_
      refine TQ.thenC ?_
      refine TC.seq ?_
      refine TC.region ?_
      refine TL.pure (PV.loadBox rfl Tb.agg_24 (by repeat (first | exact List.Mem.head _ | refine List.Mem.tail _ ?_ | refine List.mem_append_right _ ?_)) rfl) rfl (by decide) ?_
      refine TL.pure (PV.move rfl) rfl (by decide) ?_
      refine TL.pure (PV.move rfl) rfl (by decide) ?_
      refine TL.call rfl Tb.gofn_33 (fun a w hs => Walk_ok w _ _ _ _ (hr.new hs.new) f pw cw ws (hx.new hs.new)) rfl (by decide) (fun _ _ => ?_)
      refine TL.pure (PV.move rfl) rfl (by decide) ?_
      refine TL.pure (PV.extract rfl rfl) rfl (by decide) ?_
      refine TL.pure (PV.extract rfl rfl) rfl (by decide) ?_
      refine TL.pure (PV.extract rfl rfl) rfl (by decide) ?_
      refine TL.pure (PV.assign rfl) rfl (by decide) ?_
      refine TL.pure (PV.assign rfl) rfl (by decide) ?_
      refine TL.pure (PV.assign rfl) rfl (by decide) ?_
      refine TL.nil ?_
      refine TQ.thenC ?_
      refine TC.seq ?_
      refine TC.region ?_
      refine TL.pure (PV.loadBox rfl Tb.agg_24 (by repeat (first | exact List.Mem.head _ | refine List.Mem.tail _ ?_ | refine List.mem_append_right _ ?_)) rfl) rfl (by decide) ?_
      refine TL.pure (PV.move rfl) rfl (by decide) ?_
      refine TL.pure (PV.move rfl) rfl (by decide) ?_
      refine TL.call rfl Tb.gofn_34 (fun a w hs => rWalk_ok w _ _ _ _ (hr.new hs.new) f pw cw ws (hx.new hs.new)) rfl (by decide) (fun _ _ => ?_)
      refine TL.pure (PV.move rfl) rfl (by decide) ?_
      refine TL.pure (PV.extract rfl rfl) rfl (by decide) ?_
      refine TL.pure (PV.extract rfl rfl) rfl (by decide) ?_
      refine TL.pure (PV.extract rfl rfl) rfl (by decide) ?_
      refine TL.pure (PV.assign rfl) rfl (by decide) ?_
      refine TL.pure (PV.assign rfl) rfl (by decide) ?_
      refine TL.pure (PV.assign rfl) rfl (by decide) ?_
      refine TL.nil ?_
      refine TQ.thenC ?_
      refine TC.seq ?_
      refine TC.seq ?_
      refine TC.region ?_
      refine TL.pure (PV.move rfl) rfl (by decide) ?_
      refine TL.pure (PV.move rfl) rfl (by decide) ?_
      refine TL.pure (PV.neq rfl rfl) rfl (by decide) ?_
      refine TL.pure (PV.move rfl) rfl (by decide) ?_
      first | refine TL.splitD 42 rfl (fun h2 => ?_) (fun h2 => ?_) | refine TL.split 42 rfl (fun h2 => ?_) (fun h2 => ?_)
      · skip
        refine TL.skip rfl (fun k hk => by cases hk; decide) ?_
        refine TL.skip rfl (fun k hk => by cases hk; decide) ?_
        refine TL.skip rfl (fun k hk => by cases hk; decide) ?_
        refine TL.pure (PV.pickT rfl rfl) rfl (by decide) ?_
        refine TL.pure (PV.move rfl) rfl (by decide) ?_
        refine TL.skip rfl (fun k hk => by cases hk; decide) ?_
        refine TL.skip rfl (fun k hk => by cases hk; decide) ?_
        refine TL.skip rfl (fun k hk => by cases hk; decide) ?_
        refine TL.pure (PV.pickT rfl rfl) rfl (by decide) ?_
        refine TL.nil ?_
        refine TQ.thenC ?_
        refine TC.condT rfl ?_
        refine TC.seq ?_
        refine TC.region ?_
        refine TL.pure (PV.assign rfl) rfl (by decide) ?_
        refine TL.nil ?_
        refine TQ.thenC ?_
        refine TC.ret ?_
        refine TQ.thenR ?_
        refine TQ.retE1 rfl rfl ?_
        first | exact ⟨(), rfl, trivial, List.nil_sublist _⟩ | contradiction | (exfalso; omega) | (exfalso; (have h1 := hwv (by omega)); contradiction) | (exfalso; (have h1 := hbk (by omega) (by first | assumption | simp_all; done) (by omega)); omega) | (exfalso; simp_all; done)
      · skip
        refine TL.pure (PV.move rfl) rfl (by decide) ?_
        refine TL.pure (PV.move rfl) rfl (by decide) ?_
        refine TL.pure (PV.neq rfl rfl) rfl (by decide) ?_
        refine TL.pure (PV.pickF rfl rfl) rfl (by decide) ?_
        refine TL.pure (PV.move rfl) rfl (by decide) ?_
        first | refine TL.splitD 47 rfl (fun h3 => ?_) (fun h3 => ?_) | refine TL.split 47 rfl (fun h3 => ?_) (fun h3 => ?_)
        · skip
          refine TL.skip rfl (fun k hk => by cases hk; decide) ?_
          refine TL.skip rfl (fun k hk => by cases hk; decide) ?_
          refine TL.skip rfl (fun k hk => by cases hk; decide) ?_
          refine TL.pure (PV.pickT rfl rfl) rfl (by decide) ?_
          refine TL.nil ?_
          refine TQ.thenC ?_
          refine TC.condT rfl ?_
          refine TC.seq ?_
          refine TC.region ?_
          refine TL.pure (PV.assign rfl) rfl (by decide) ?_
          refine TL.nil ?_
          refine TQ.thenC ?_
          refine TC.ret ?_
          refine TQ.thenR ?_
          refine TQ.retE1 rfl rfl ?_
          first | exact ⟨(), rfl, trivial, List.nil_sublist _⟩ | contradiction | (exfalso; omega) | (exfalso; (have h1 := hwv (by omega)); contradiction) | (exfalso; (have h1 := hbk (by omega) (by first | assumption | simp_all; done) (by omega)); omega) | (exfalso; simp_all; done)
        · skip
          refine TL.pure (PV.move rfl) rfl (by decide) ?_
          refine TL.pure (PV.move rfl) rfl (by decide) ?_
          refine TL.pure (PV.neq rfl rfl) rfl (by decide) ?_
          refine TL.pure (PV.pickF rfl rfl) rfl (by decide) ?_
          refine TL.nil ?_
          refine TQ.thenC ?_
          first | refine TC.condD rfl (fun h4 => ?_) (fun h4 => ?_) | refine TC.cond rfl (fun h4 => ?_) (fun h4 => ?_)
          · skip
            refine TC.seq ?_
            refine TC.region ?_
            refine TL.pure (PV.assign rfl) rfl (by decide) ?_
            refine TL.nil ?_
            refine TQ.thenC ?_
            refine TC.ret ?_
            refine TQ.thenR ?_
            refine TQ.retE1 rfl rfl ?_
            first | exact ⟨(), rfl, trivial, List.nil_sublist _⟩ | contradiction | (exfalso; omega) | (exfalso; (have h1 := hwv (by omega)); contradiction) | (exfalso; (have h1 := hbk (by omega) (by first | assumption | simp_all; done) (by omega)); omega) | (exfalso; simp_all; done)
          · skip
            refine TC.skip ?_
            refine TQ.thenC ?_
            refine TC.seq ?_
            refine TC.region ?_
            refine TL.pure (PV.loadBox rfl Tb.agg_24 (by repeat (first | exact List.Mem.head _ | refine List.Mem.tail _ ?_ | refine List.mem_append_right _ ?_)) rfl) rfl (by decide) ?_
            refine TL.call rfl Tb.gofn_31 (fun a w hs => IsTrue_ok w _ _ _ _ (hr.new hs.new) GG hG) rfl (by decide) (fun _ _ => ?_)
            refine TL.pure (PV.move rfl) rfl (by decide) ?_
            refine TL.pure (PV.extract rfl rfl) rfl (by decide) ?_
            refine TL.pure (PV.extract rfl rfl) rfl (by decide) ?_
            refine TL.pure (PV.assign rfl) rfl (by decide) ?_
            refine TL.pure (PV.assign rfl) rfl (by decide) ?_
            refine TL.nil ?_
            refine TQ.thenC ?_
            refine TC.seq ?_
            have hbk := fun a b c => back (n := n) (rs := rs) (f := f) (ws := ws) (xs := Hs n rs GG) a b c
            have hwv : wkI n rs f ws = 0 → validateI n rs = 0 := fun h => Decidable.of_not_not (wk_is h).1
            refine TC.region ?_
            refine TL.pure (PV.move rfl) rfl (by decide) ?_
            refine TL.pure (PV.neq rfl rfl) rfl (by decide) ?_
            refine TL.pure (PV.move rfl) rfl (by decide) ?_
            first | refine TL.splitD 59 rfl (fun h5 => ?_) (fun h5 => ?_) | refine TL.split 59 rfl (fun h5 => ?_) (fun h5 => ?_)
            · skip
              refine TL.skip rfl (fun k hk => by cases hk; decide) ?_
              refine TL.skip rfl (fun k hk => by cases hk; decide) ?_
              refine TL.skip rfl (fun k hk => by cases hk; decide) ?_
              refine TL.skipU rfl (fun k hk => by cases hk; decide) ?_
              refine TL.skipU rfl (fun k hk => by cases hk; decide) ?_
              refine TL.skipU rfl (fun k hk => by cases hk; decide) ?_
              refine TL.skipU rfl (fun k hk => by cases hk; decide) ?_
              refine TL.skipU rfl (fun k hk => by cases hk; decide) ?_
              refine TL.skipU rfl (fun k hk => by cases hk; decide) ?_
              refine TL.skipU rfl (fun k hk => by cases hk; decide) ?_
              refine TL.skipU rfl (fun k hk => by cases hk; decide) ?_
              refine TL.skipU rfl (fun k hk => by cases hk; decide) ?_
              refine TL.skipU rfl (fun k hk => by cases hk; decide) ?_
              refine TL.skipU rfl (fun k hk => by cases hk; decide) ?_
              refine TL.skip rfl (fun k hk => by cases hk; decide) ?_
              refine TL.pure (PV.pickT rfl rfl) rfl (by decide) ?_
              refine TL.pure (PV.move rfl) rfl (by decide) ?_
              refine TL.call rfl Tb.gofn_18 (fun a w hs => known_ok w) rfl (by decide) (fun _ _ => ?_)
              refine TL.pure (PV.pickT rfl rfl) rfl (by decide) ?_
              refine TL.pure (PV.assign rfl) rfl (by decide) ?_
              refine TL.nil ?_
              refine TQ.thenC ?_
              refine TC.ret ?_
              refine TQ.retE1 rfl rfl ?_
              first | exact ⟨(), rfl, trivial, List.nil_sublist _⟩ | contradiction | (exfalso; omega) | (exfalso; (have h1 := hwv (by omega)); contradiction) | (exfalso; (have h1 := hbk (by omega) (by first | assumption | simp_all; done) (by omega)); omega) | (exfalso; simp_all; done)
            · skip
              refine TL.pure (PV.move rfl) rfl (by decide) ?_
              refine TL.pure (PV.eql rfl rfl) rfl (by decide) ?_
              refine TL.pure (PV.move rfl) rfl (by decide) ?_
              first | refine TL.splitD 62 rfl (fun h6 => ?_) (fun h6 => ?_) | refine TL.split 62 rfl (fun h6 => ?_) (fun h6 => ?_)
              · skip
                refine TL.pure (PV.move rfl) rfl (by decide) ?_
                refine TL.pure ((by first | exact PV.notD rfl | exact PV.not rfl)) rfl (by decide) ?_
                refine TL.pure (PV.move rfl) rfl (by decide) ?_
                first | refine TL.splitD 65 rfl (fun h7 => ?_) (fun h7 => ?_) | refine TL.split 65 rfl (fun h7 => ?_) (fun h7 => ?_)
                · skip
                  refine TL.skip rfl (fun k hk => by cases hk; decide) ?_
                  refine TL.skip rfl (fun k hk => by cases hk; decide) ?_
                  refine TL.skip rfl (fun k hk => by cases hk; decide) ?_
                  refine TL.pure (PV.pickT rfl rfl) rfl (by decide) ?_
                  refine TL.pure (PV.move rfl) rfl (by decide) ?_
                  refine TL.skip rfl (fun k hk => by cases hk; decide) ?_
                  refine TL.skip rfl (fun k hk => by cases hk; decide) ?_
                  refine TL.pure (PV.pickT rfl rfl) rfl (by decide) ?_
                  refine TL.pure (PV.pickT rfl rfl) rfl (by decide) ?_
                  refine TL.pure (PV.pickF rfl rfl) rfl (by decide) ?_
                  refine TL.pure (PV.move rfl) rfl (by decide) ?_
                  refine TL.call rfl Tb.gofn_18 (fun a w hs => known_ok w) rfl (by decide) (fun _ _ => ?_)
                  refine TL.pure (PV.pickT rfl rfl) rfl (by decide) ?_
                  refine TL.pure (PV.assign rfl) rfl (by decide) ?_
                  refine TL.nil ?_
                  refine TQ.thenC ?_
                  refine TC.ret ?_
                  refine TQ.retE1 rfl rfl ?_
                  first | exact ⟨(), rfl, trivial, List.nil_sublist _⟩ | contradiction | (exfalso; omega) | (exfalso; (have h1 := hwv (by omega)); contradiction) | (exfalso; (have h1 := hbk (by omega) (by first | assumption | simp_all; done) (by omega)); omega) | (exfalso; simp_all; done)
                · skip
                  refine TL.pure (PV.move rfl) rfl (by decide) ?_
                  refine TL.pure (PV.move rfl) rfl (by decide) ?_
                  refine TL.pure (PV.neq rfl rfl) rfl (by decide) ?_
                  refine TL.pure (PV.pickF rfl rfl) rfl (by decide) ?_
                  refine TL.pure (PV.move rfl) rfl (by decide) ?_
                  first | refine TL.splitD 70 rfl (fun h8 => ?_) (fun h8 => ?_) | refine TL.split 70 rfl (fun h8 => ?_) (fun h8 => ?_)
                  · skip
                    refine TL.skip rfl (fun k hk => by cases hk; decide) ?_
                    refine TL.skip rfl (fun k hk => by cases hk; decide) ?_
                    refine TL.pure (PV.pickT rfl rfl) rfl (by decide) ?_
                    refine TL.pure (PV.pickT rfl rfl) rfl (by decide) ?_
                    refine TL.pure (PV.pickF rfl rfl) rfl (by decide) ?_
                    refine TL.pure (PV.move rfl) rfl (by decide) ?_
                    refine TL.call rfl Tb.gofn_18 (fun a w hs => known_ok w) rfl (by decide) (fun _ _ => ?_)
                    refine TL.pure (PV.pickT rfl rfl) rfl (by decide) ?_
                    refine TL.pure (PV.assign rfl) rfl (by decide) ?_
                    refine TL.nil ?_
                    refine TQ.thenC ?_
                    refine TC.ret ?_
                    refine TQ.retE1 rfl rfl ?_
                    first | exact ⟨(), rfl, trivial, List.nil_sublist _⟩ | contradiction | (exfalso; omega) | (exfalso; (have h1 := hwv (by omega)); contradiction) | (exfalso; (have h1 := hbk (by omega) (by first | assumption | simp_all; done) (by omega)); omega) | (exfalso; simp_all; done)
                  · skip
                    refine TL.pure (PV.move rfl) rfl (by decide) ?_
                    refine TL.pure (PV.eql rfl rfl) rfl (by decide) ?_
                    refine TL.pure (PV.pickF rfl rfl) rfl (by decide) ?_
                    refine TL.pure (PV.pickT rfl rfl) rfl (by decide) ?_
                    refine TL.pure (PV.pickF rfl rfl) rfl (by decide) ?_
                    refine TL.pure (PV.move rfl) rfl (by decide) ?_
                    first | refine TL.splitD 76 rfl (fun h9 => ?_) (fun h9 => ?_) | refine TL.split 76 rfl (fun h9 => ?_) (fun h9 => ?_)
                    · skip
                      refine TL.call rfl Tb.gofn_18 (fun a w hs => known_ok w) rfl (by decide) (fun _ _ => ?_)
                      refine TL.pure (PV.pickT rfl rfl) rfl (by decide) ?_
                      refine TL.pure (PV.assign rfl) rfl (by decide) ?_
                      refine TL.nil ?_
                      refine TQ.thenC ?_
                      refine TC.ret ?_
                      refine TQ.retE1 rfl rfl ?_
                      first | exact ⟨(), rfl, trivial, List.nil_sublist _⟩ | contradiction | (exfalso; omega) | (exfalso; (have h1 := hwv (by omega)); contradiction) | (exfalso; (have h1 := hbk (by omega) (by first | assumption | simp_all; done) (by omega)); omega) | (exfalso; simp_all; done)
                    · skip
                      refine TL.skip rfl (fun k hk => by cases hk; decide) ?_
                      refine TL.pure (PV.pickF rfl rfl) rfl (by decide) ?_
                      refine TL.pure (PV.assign rfl) rfl (by decide) ?_
                      refine TL.nil ?_
                      refine TQ.thenC ?_
                      refine TC.ret ?_
                      refine TQ.retE1 rfl rfl ?_
                      first | exact ⟨(), rfl, trivial, List.nil_sublist _⟩ | contradiction | (exfalso; omega) | (exfalso; (have h1 := hwv (by omega)); contradiction) | (exfalso; (have h1 := hbk (by omega) (by first | assumption | simp_all; done) (by omega)); omega) | (exfalso; simp_all; done)
              · skip
                refine TL.skip rfl (fun k hk => by cases hk; decide) ?_
                refine TL.skip rfl (fun k hk => by cases hk; decide) ?_
                refine TL.skip rfl (fun k hk => by cases hk; decide) ?_
                refine TL.skipU rfl (fun k hk => by cases hk; decide) ?_
                refine TL.skipU rfl (fun k hk => by cases hk; decide) ?_
                refine TL.skipU rfl (fun k hk => by cases hk; decide) ?_
                refine TL.skip rfl (fun k hk => by cases hk; decide) ?_
                refine TL.skip rfl (fun k hk => by cases hk; decide) ?_
                refine TL.skipU rfl (fun k hk => by cases hk; decide) ?_
                refine TL.skipU rfl (fun k hk => by cases hk; decide) ?_
                refine TL.skip rfl (fun k hk => by cases hk; decide) ?_
                refine TL.pure (PV.pickF rfl rfl) rfl (by decide) ?_
                refine TL.pure (PV.pickF rfl rfl) rfl (by decide) ?_
                refine TL.pure (PV.move rfl) rfl (by decide) ?_
                refine TL.skip rfl (fun k hk => by cases hk; decide) ?_
                refine TL.pure (PV.pickF rfl rfl) rfl (by decide) ?_
                refine TL.pure (PV.assign rfl) rfl (by decide) ?_
                refine TL.nil ?_
                refine TQ.thenC ?_
                refine TC.ret ?_
                refine TQ.retE1 rfl rfl ?_
                first | exact ⟨(), rfl, trivial, List.nil_sublist _⟩ | contradiction | (exfalso; omega) | (exfalso; (have h1 := hwv (by omega)); contradiction) | (exfalso; (have h1 := hbk (by omega) (by first | assumption | simp_all; done) (by omega)); omega) | (exfalso; simp_all; done)

end Go.Proofs.Ytmmgcajegokkoaa
