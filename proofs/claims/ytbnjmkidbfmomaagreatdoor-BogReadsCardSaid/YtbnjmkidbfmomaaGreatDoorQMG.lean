/- Texts joined. -/
import Derived.Test.YtbnjmkidbfmomaaGreatDoorQBD
import Derived.Test.YtbnjmkidbfmomaaGreatDoorQXf
import Derived.Test.YtbnjmkidbfmomaaGreatDoorQMF
import Derived.Test.YtbnjmkidbfmomaaGreatDoorQBB
import Derived.Laws.Strings3
set_option linter.unusedSimpArgs false
set_option linter.unusedVariables false
/- Writing a book: contracts. -/
namespace Go.Proofs.YtbnjmkidbfmomaaGreatDoor
open Go.Sx Go.RowKit Go.Bt Go.Lib Go.Sand

/-- The first text that a test takes. -/
def FstS (φ : List UInt8 → Bool) (L : List (List UInt8)) (i : Int) : Prop := (i = -1 ∧ ∀ j, j < L.length → φ (L.getD j []) = false) ∨ ∃ k : Nat, i = k ∧ k < L.length ∧ φ (L.getD k []) = true
theorem fstS_any {φ : List UInt8 → Bool} {L : List (List UInt8)} {i : Int} (h : FstS φ L i) : L.any φ = decide (0 ≤ i) := by
  rcases h with ⟨rfl, h⟩ | ⟨k, rfl, hk, h⟩
  · rw [decide_eq_false (by decide), List.any_eq_false]
    intro x hx
    obtain ⟨j, hj, rfl⟩ := List.getElem_of_mem hx
    have := h j hj
    simpa [List.getD, hj] using this
  · rw [decide_eq_true (by omega), List.any_eq_true]
    exact ⟨L.getD k [], by simp [List.getD, hk], h⟩
theorem any_not (L : List (List UInt8)) : (L.any fun s => !rightS s) = !L.all rightS := by
  induction L with
  | nil => rfl
  | cons x L ih => rw [List.any_cons, List.all_cons, ih, Bool.not_and]
theorem wr_any {L : List (List UInt8)} (h : ¬ 100 < L.length) : wrI L = if (L.any fun s => !rightS s) = true then 1 else 0 := by
  unfold wrI
  rw [if_neg h, any_not]
  cases L.all rightS <;> rfl

set_option maxRecDepth 100000 in
theorem indexFS_ok (w0 : World) (p : Option Addr) (c : Nat) (L : List (List UInt8)) (hL : StrsAt w0 p L) (h300 : L.length ≤ 1000000) (hs9 : ∀ j, (L.getD j []).length ≤ 1000000) (f : FuncId) (caps : List Value) (φ : List UInt8 → Bool) (hfn : goFn Tryz.prog f = true) (hcb : ∀ w G, New w0 w G → ∀ x : List UInt8, x.length ≤ 1000000 → Calls Tryz.prog f (str x :: caps).toArray w (Post (X := Unit) (fun _ => .bool (φ x)) (fun _ => True) (fun _ => []) w)) :
    Calls Tryz.prog 126 #[.slice p L.length c, .func (.func f) #[] caps.toArray] w0 (Post (X := Int) (fun i => .int .i64 i) (fun i => FstS φ L i) (fun _ => []) w0) := by
  refine calls Tryz.func126 rfl (n := 19) rfl (by simp) ?_
  refine TC.seq ?_
  refine TC.region ?_
  refine TL.pure (PV.assign rfl) rfl (by decide) ?_
  refine TL.nil ?_
  refine TQ.thenC ?_
  refine TC.seq ?_
  refine TC.seq ?_
  refine TC.region ?_
  refine TL.pure (PV.move rfl) rfl (by decide) ?_
  refine TL.pure (PV.len rfl Tb.sl_43) rfl (by decide) ?_
  refine TL.pure (PV.move rfl) rfl (by decide) ?_
  refine TL.nil ?_
  refine TQ.thenC ?_
  refine TC.block ?_
  -- live and written in the loop, not told: [4]
  refine TC.loopK [0, 1, 7] (X := Nat) (fun k => k ≤ L.length ∧ ∀ j, j < k → φ (L.getD j []) = false) (fun k => [(8, .int .i64 (k : Nat))]) (fun k => []) (fun k => L.length - k) 0 ⟨Nat.zero_le _, fun j hj => absurd hj (Nat.not_lt_zero _)⟩ (by repeat (first | exact True.intro | refine And.intro rfl ?_)) (by repeat (first | exact .slnil | exact List.nil_sublist _ | exact .refl _ | refine .cons_cons _ ?_ | refine .cons _ ?_ | refine .trans ?_ (List.sublist_append_right _ _))) ?_
  intro k hk
  have hk1 := hk.1
  refine TC.seq ?_
  refine TC.region ?_
  refine TL.pure (PV.lss rfl rfl) rfl (by decide) ?_
  refine TL.nil ?_
  refine TQ.thenC ?_
  refine TC.seq ?_
  first | refine TC.condD rfl (fun hlt => ?_) (fun hlt => ?_) | refine TC.cond rfl (fun hlt => ?_) (fun hlt => ?_)
  · refine TC.skip ?_
    refine TQ.thenC ?_
    refine TC.seq ?_
    refine TC.block ?_
    refine TC.seq ?_
    refine TC.region ?_
    refine TL.pure (PV.move rfl) rfl (by decide) ?_
    refine TL.pure (PV.assign rfl) rfl (by decide) ?_
    refine TL.nil ?_
    refine TQ.thenC ?_
    refine TC.seq ?_
    obtain ⟨q2, q2p, q2v⟩ := hL k (by omega)
    refine TC.region ?_
    refine TL.pure (PV.move rfl) rfl (by decide) ?_
    refine TL.pure (PV.move rfl) rfl (by decide) ?_
    refine TL.pure (PV.move rfl) rfl (by decide) ?_
    refine TL.pure (PV.indexA rfl q2p rfl Tb.elm_43 rfl (by omega)) rfl (by decide) ?_
    refine TL.pure (PV.loadOld rfl Tb.one_9 q2v) rfl (by decide) ?_
    refine TL.callF (f := f) (caps := caps) (X := Unit) (fun _ => .bool (φ (L.getD k []))) (fun _ => True) (fun _ => []) rfl rfl hfn (fun a w hs => (hcb w _ hs.new (L.getD k []) (hs9 k)).mono fun e w' ⟨x9, h1, h2, h3⟩ => ⟨x9, h1, h2, hs.new.trans h3⟩) rfl (by decide) (fun _ _ => ?_)
    refine TL.nil ?_
    refine TQ.thenC ?_
    first | refine TC.condD rfl (fun hno => ?_) (fun hno => ?_) | refine TC.cond rfl (fun hno => ?_) (fun hno => ?_)
    · refine TC.seq ?_
      refine TC.region ?_
      refine TL.pure (PV.move rfl) rfl (by decide) ?_
      refine TL.pure (PV.assign rfl) rfl (by decide) ?_
      refine TL.nil ?_
      refine TQ.thenC ?_
      refine TC.ret ?_
      refine TQ.blkR ?_
      refine TQ.thenR ?_
      refine TQ.thenR ?_
      refine TQ.blkR ?_
      refine TQ.thenR ?_
      refine TQ.retE1 rfl rfl ?_
      exact ⟨k, rfl, .inr ⟨k, rfl, by omega, by simpa using hno⟩, List.nil_sublist _⟩
    · refine TC.skip ?_
      refine TQ.blkN ?_
      refine TQ.thenC ?_
      refine TC.region ?_
      refine TL.pure (PV.add rfl rfl (by omega)) rfl (by decide) ?_
      refine TL.pure (PV.move rfl) rfl (by decide) ?_
      refine TL.nil ?_
      refine TQ.thenN ?_
      refine TQ.backK (k + 1) (by repeat (first | exact True.intro | refine And.intro rfl ?_)) (by repeat (first | exact True.intro | refine And.intro rfl ?_)) (by repeat (first | exact .slnil | exact List.nil_sublist _ | exact .refl _ | refine .cons_cons _ ?_ | refine .cons _ ?_ | refine .trans ?_ (List.sublist_append_right _ _))) ⟨by omega, fun j hj => if e : j < k then hk.2 j e else (show k = j by omega) ▸ (by simpa using hno)⟩ (by omega)
  · refine TC.exit ?_
    refine TQ.thenE ?_
    refine TQ.thenE ?_
    refine TQ.blkS ?_
    refine TQ.thenC ?_
    refine TC.seq ?_
    refine TC.region ?_
    refine TL.pure (PV.assign rfl) rfl (by decide) ?_
    refine TL.nil ?_
    refine TQ.thenC ?_
    refine TC.ret ?_
    refine TQ.retE1 rfl rfl ?_
    exact ⟨-1, rfl, .inl ⟨rfl, fun j hj => hk.2 j (by omega)⟩, List.nil_sublist _⟩

set_option maxRecDepth 100000 in
theorem containsFS_ok (w0 : World) (p : Option Addr) (c : Nat) (L : List (List UInt8)) (hL : StrsAt w0 p L) (h300 : L.length ≤ 1000000) (hs9 : ∀ j, (L.getD j []).length ≤ 1000000) (f : FuncId) (caps : List Value) (φ : List UInt8 → Bool) (hfn : goFn Tryz.prog f = true) (hcb : ∀ w G, New w0 w G → ∀ x : List UInt8, x.length ≤ 1000000 → Calls Tryz.prog f (str x :: caps).toArray w (Post (X := Unit) (fun _ => .bool (φ x)) (fun _ => True) (fun _ => []) w)) :
    Calls Tryz.prog 84 #[.slice p L.length c, .func (.func f) #[] caps.toArray] w0 (Post (X := Unit) (fun _ => .bool (L.any φ)) (fun _ => True) (fun _ => []) w0) := by
  refine calls Tryz.func84 rfl (n := 9) rfl (by simp) ?_
  refine TC.seq ?_
  refine TC.region ?_
  refine TL.pure (PV.assign rfl) rfl (by decide) ?_
  refine TL.nil ?_
  refine TQ.thenC ?_
  refine TC.seq ?_
  refine TC.region ?_
  refine TL.pure (PV.move rfl) rfl (by decide) ?_
  refine TL.pure (PV.move rfl) rfl (by decide) ?_
  refine TL.call rfl Tb.gofn_126 (fun a w hs => indexFS_ok w p c L (hL.new hs.new) h300 hs9 f caps φ hfn (fun w2 G2 hn2 x hx => hcb w2 _ (hs.new.trans hn2) x hx)) rfl (by decide) (fun i9 hi9 => ?_)
  refine TL.pure (PV.geq rfl rfl) rfl (by decide) ?_
  refine TL.pure (PV.assign rfl) rfl (by decide) ?_
  refine TL.nil ?_
  refine TQ.thenC ?_
  refine TC.ret ?_
  refine TQ.retE1 rfl rfl ?_
  exact ⟨(), by rw [fstS_any hi9], trivial, List.nil_sublist _⟩

set_option maxRecDepth 100000 in
theorem writeF_ok (w0 : World) (L : List UInt8) (hl : L.length ≤ 1000000) :
    Calls Tryz.prog 85 #[str L] w0 (Post (X := Unit) (fun _ => .bool (!rightS L)) (fun _ => True) (fun _ => []) w0) := by
  refine calls Tryz.func85 rfl (n := 6) rfl (by simp) ?_
  refine TC.seq ?_
  refine TC.region ?_
  refine TL.pure (PV.assign rfl) rfl (by decide) ?_
  refine TL.nil ?_
  refine TQ.thenC ?_
  refine TC.seq ?_
  refine TC.region ?_
  refine TL.pure (PV.move rfl) rfl (by decide) ?_
  refine TL.call rfl Tb.gofn_80 (fun a w hs => isLine_ok w L hl) rfl (by decide) (fun _ _ => ?_)
  refine TL.pure ((by first | exact PV.notD rfl | exact PV.not rfl)) rfl (by decide) ?_
  refine TL.pure (PV.assign rfl) rfl (by decide) ?_
  refine TL.nil ?_
  refine TQ.thenC ?_
  refine TC.ret ?_
  refine TQ.retE1 rfl rfl ?_
  exact ⟨(), congrArg Value.bool (by show decide (¬ _) = !decide _; rw [decide_not]), trivial, List.nil_sublist _⟩

set_option maxRecDepth 100000 in
theorem Write_ok (w0 : World) (hW : WAt w0) (p : Option Addr) (c : Nat) (L : List (List UInt8)) (hL : StrsAt w0 p L) (h300 : L.length ≤ 300) (hs9 : ∀ j, (L.getD j []).length ≤ 400) :
    Calls Tryz.prog 48 #[.slice p L.length c] w0 (Post (X := Unit) (fun _ => .tuple #[str (wrL dI L), .int .i64 (wrI L)]) (fun _ => True) (fun _ => []) w0) := by
  refine calls Tryz.func48 rfl (n := 11) rfl (by simp) ?_
  refine TC.seq ?_
  refine TC.region ?_
  refine TL.pure (PV.assign rfl) rfl (by decide) ?_
  refine TL.pure (PV.assign rfl) rfl (by decide) ?_
  refine TL.nil ?_
  refine TQ.thenC ?_
  refine TC.seq ?_
  refine TC.seq ?_
  refine TC.region ?_
  refine TL.pure (PV.move rfl) rfl (by decide) ?_
  refine TL.pure (PV.len rfl Tb.sl_43) rfl (by decide) ?_
  refine TL.pure (PV.gtr rfl rfl) rfl (by decide) ?_
  refine TL.nil ?_
  refine TQ.thenC ?_
  first | refine TC.condD rfl (fun h100 => ?_) (fun h100 => ?_) | refine TC.cond rfl (fun h100 => ?_) (fun h100 => ?_)
  · refine TC.seq ?_
    refine TC.region ?_
    refine TL.pure (PV.assign rfl) rfl (by decide) ?_
    refine TL.pure (PV.assign rfl) rfl (by decide) ?_
    refine TL.nil ?_
    refine TQ.thenC ?_
    refine TC.ret ?_
    refine TQ.thenR ?_
    refine TQ.retE2 rfl rfl rfl ?_
    exact ⟨(), by unfold wrL; rw [wr_100 (L := L) (by omega), if_neg (by decide)]; rfl, trivial, List.nil_sublist _⟩
  · refine TC.skip ?_
    refine TQ.thenC ?_
    refine TC.seq ?_
    refine TC.seq ?_
    refine TC.region ?_
    refine TL.pure (PV.move rfl) rfl (by decide) ?_
    refine TL.call rfl Tb.gofn_84 (fun a w hs => containsFS_ok w p c L (hL.new hs.new) (by omega) (fun j => by have := hs9 j; omega) 85 [] (fun s => !rightS s) Tb.gofn_85 (fun w2 G2 hn2 x hx => writeF_ok w2 x hx)) rfl (by decide) (fun _ _ => ?_)
    refine TL.nil ?_
    refine TQ.thenC ?_
    first | refine TC.condD rfl (fun hb => ?_) (fun hb => ?_) | refine TC.cond rfl (fun hb => ?_) (fun hb => ?_)
    · refine TC.seq ?_
      refine TC.region ?_
      refine TL.pure (PV.assign rfl) rfl (by decide) ?_
      refine TL.pure (PV.assign rfl) rfl (by decide) ?_
      refine TL.nil ?_
      refine TQ.thenC ?_
      refine TC.ret ?_
      refine TQ.thenR ?_
      refine TQ.retE2 rfl rfl rfl ?_
      have hw1 := wr_any (L := L) (by omega)
      rw [if_pos hb] at hw1
      exact ⟨(), by unfold wrL; rw [hw1, if_neg (by decide)]; rfl, trivial, List.nil_sublist _⟩
    · refine TC.skip ?_
      refine TQ.thenC ?_
      refine TC.seq ?_
      refine TC.region ?_
      refine TL.pure (PV.move rfl) rfl (by decide) ?_
      refine TL.call rfl Tb.gofn_68 (fun a w hs => bookOf_ok w (hW.new hs.new) p c L (hL.new hs.new) h300 hs9) rfl (by decide) (fun _ _ => ?_)
      refine TL.pure (PV.assign rfl) rfl (by decide) ?_
      refine TL.pure (PV.assign rfl) rfl (by decide) ?_
      refine TL.nil ?_
      refine TQ.thenC ?_
      refine TC.ret ?_
      refine TQ.retE2 rfl rfl rfl ?_
      have hw1 := wr_any (L := L) (by omega)
      rw [if_neg (by rw [hb]; decide)] at hw1
      exact ⟨(), by unfold wrL; rw [hw1, if_pos rfl], trivial, List.nil_sublist _⟩

end Go.Proofs.YtbnjmkidbfmomaaGreatDoor

/- Reading a book: contract. -/
namespace Go.Proofs.YtbnjmkidbfmomaaGreatDoor
open Go.Sx Go.RowKit Go.Bt Go.Lib Go.Sand

theorem brk_len (c : UInt8) (l : List UInt8) : (brk c l).1.length ≤ l.length ∧ ((brk c l).2.getD []).length ≤ l.length := by
  cases h : (brk c l).2 with
  | none =>
    have := congrArg List.length (brk_none h)
    exact ⟨by omega, Nat.zero_le _⟩
  | some r =>
    have := brk_le h
    exact ⟨by omega, by show r.length ≤ _; omega⟩
theorem lnO_len (r : List UInt8) : (lnO r).length ≤ r.length := by
  have h1 := (brk_len 10 r).1
  have h2 := (brk_len 32 (brk 10 r).1).2
  unfold lnO
  omega
set_option maxRecDepth 100000 in
set_option maxHeartbeats 1000000 in
theorem Read_ok (w0 : World) (hW : WAt w0) (t : List UInt8) (ht : t.length ≤ 1000000) :
    Calls Tryz.prog 43 #[str t] w0 (Post (X := HD) (fun h => .tuple #[.slice (gp h) (readL t).1.length (gc h), str (readL t).2]) (fun h => goR stR h (readL t).1) (fun h => gbR stR 9 h (readL t).1) w0) := by
  refine calls Tryz.func43 rfl (n := 54) rfl (by simp) ?_
  refine TC.seq ?_
  refine TC.region ?_
  refine TL.pure (PV.assign rfl) rfl (by decide) ?_
  refine TL.pure (PV.assign rfl) rfl (by decide) ?_
  refine TL.nil ?_
  refine TQ.thenC ?_
  refine TC.seq ?_
  refine TC.region ?_
  refine TL.pure (PV.assign rfl) rfl (by decide) ?_
  refine TL.nil ?_
  refine TQ.thenC ?_
  refine TC.seq ?_
  refine TC.region ?_
  refine TL.pure (PV.move rfl) rfl (by decide) ?_
  refine TL.pure (PV.assign rfl) rfl (by decide) ?_
  refine TL.pure (PV.assign rfl) rfl (by decide) ?_
  refine TL.nil ?_
  refine TQ.thenC ?_
  refine TC.seq ?_
  refine TC.block ?_
  refine TC.loopK [2, 3] (X := HD × List (List UInt8) × Int × List UInt8) (fun x => goR stR x.1 x.2.1 ∧ RdS t x.2.1 x.2.2.1 x.2.2.2) (fun x => [(4, gval x.1 x.2.1.length), (6, str x.2.2.2), (5, .int .i64 x.2.2.1)]) (fun x => gbR stR 9 x.1 x.2.1 ++ []) (fun x => 100 - x.2.1.length) (none, [], 0, t) ⟨⟨rfl, rfl⟩, RdS.zero t⟩ (by repeat (first | exact True.intro | refine And.intro rfl ?_)) (List.Sublist.refl _) ?_
  intro x hx
  refine TC.seq ?_
  refine TC.seq ?_
  have hle := hx.2.len
  have hln := lnO_len x.2.2.2
  have hbl := brk_len 10 x.2.2.2
  have hsm := hx.2.sm
  refine TC.region ?_
  refine TL.pure (PV.move rfl) rfl (by decide) ?_
  refine TL.pure (PV.lenO rfl hx.1) rfl (by decide) ?_
  refine TL.pure (PV.lss rfl rfl) rfl (by decide) ?_
  refine TL.nil ?_
  refine TQ.thenC ?_
  first | refine TC.condD rfl (fun hlt => ?_) (fun hlt => ?_) | refine TC.cond rfl (fun hlt => ?_) (fun hlt => ?_)
  · refine TC.skip ?_
    refine TQ.thenC ?_
    refine TC.block ?_
    refine TC.seq ?_
    refine TC.region ?_
    refine TL.pure (PV.move rfl) rfl (by decide) ?_
    refine TL.call rfl Tb.gofn_79 (fun a w hs => scut_ok w (hW.new hs.new) 10 x.2.2.2 (by omega)) rfl (by decide) (fun _ _ => ?_)
    refine TL.pure (PV.move rfl) rfl (by decide) ?_
    refine TL.pure (PV.extract rfl rfl) rfl (by decide) ?_
    refine TL.pure (PV.extract rfl rfl) rfl (by decide) ?_
    refine TL.pure (PV.extract rfl rfl) rfl (by decide) ?_
    refine TL.pure (PV.assign rfl) rfl (by decide) ?_
    refine TL.pure (PV.assign rfl) rfl (by decide) ?_
    refine TL.pure (PV.assign rfl) rfl (by decide) ?_
    refine TL.nil ?_
    refine TQ.thenC ?_
    refine TC.seq ?_
    refine TC.region ?_
    refine TL.pure (PV.move rfl) rfl (by decide) ?_
    refine TL.call rfl Tb.gofn_79 (fun a w hs => scut_ok w (hW.new hs.new) 32 (brk 10 x.2.2.2).1 (by omega)) rfl (by decide) (fun _ _ => ?_)
    refine TL.pure (PV.move rfl) rfl (by decide) ?_
    refine TL.pure (PV.extract rfl rfl) rfl (by decide) ?_
    refine TL.pure (PV.extract rfl rfl) rfl (by decide) ?_
    refine TL.pure (PV.extract rfl rfl) rfl (by decide) ?_
    refine TL.pure (PV.assign rfl) rfl (by decide) ?_
    refine TL.pure (PV.assign rfl) rfl (by decide) ?_
    refine TL.pure (PV.assign rfl) rfl (by decide) ?_
    refine TL.nil ?_
    refine TQ.thenC ?_
    refine TC.seq ?_
    refine TC.seq ?_
    refine TC.region ?_
    refine TL.pure (PV.move rfl) rfl (by decide) ?_
    refine TL.call rfl Tb.gofn_80 (fun a w hs => isLine_ok w (lnO x.2.2.2) (by omega)) rfl (by decide) (fun _ _ => ?_)
    refine TL.pure ((by first | exact PV.notD rfl | exact PV.not rfl)) rfl (by decide) ?_
    refine TL.nil ?_
    refine TQ.thenC ?_
    first | refine TC.condD rfl (fun hnl => ?_) (fun hnl => ?_) | refine TC.cond rfl (fun hnl => ?_) (fun hnl => ?_)
    · have hr0 : rightS (lnO x.2.2.2) = false := decide_eq_false hnl
      refine TC.exit ?_
      refine TQ.thenE ?_
      refine TQ.blkE (by decide) ?_
      refine TQ.thenE ?_
      refine TQ.blkS ?_
      refine TQ.thenC ?_
      refine TC.seq ?_
      refine TC.region ?_
      refine TL.pure (PV.move rfl) rfl (by decide) ?_
      refine TL.pure (PV.move rfl) rfl (by decide) ?_
      refine TL.pure (PV.assign rfl) rfl (by decide) ?_
      refine TL.pure (PV.assign rfl) rfl (by decide) ?_
      refine TL.nil ?_
      refine TQ.thenC ?_
      refine TC.ret ?_
      refine TQ.retE2 rfl rfl rfl ?_
      have e := hx.2.stop (pg_line hr0)
      exact ⟨x.1, by rw [e]; exact congrArg (fun v => Value.tuple #[v, str x.2.2.2]) (ords_len hx.1), by rw [e]; exact hx.1, by rw [e]; exact List.sublist_append_left _ _⟩
    · have hr1 : rightS (lnO x.2.2.2) = true := decide_eq_true (by simpa using hnl)
      refine TC.skip ?_
      refine TQ.thenC ?_
      refine TC.seq ?_
      refine TC.region ?_
      refine TL.pure (PV.move rfl) rfl (by decide) ?_
      refine TL.pure (PV.move rfl) rfl (by decide) ?_
      refine TL.call rfl Tb.gofn_46 (fun a w hs => Sum_ok w x.2.2.1 (by omega) (lnO x.2.2.2) (by omega)) rfl (by decide) (fun _ _ => ?_)
      refine TL.pure (PV.assign rfl) rfl (by decide) ?_
      refine TL.nil ?_
      refine TQ.thenC ?_
      refine TC.seq ?_
      refine TC.region ?_
      refine TL.pure (PV.move rfl) rfl (by decide) ?_
      refine TL.pure (PV.move rfl) rfl (by decide) ?_
      refine TL.pure (PV.move rfl) rfl (by decide) ?_
      refine TL.call rfl Tb.gofn_82 (fun a w hs => page_ok w (hW.new hs.new) _ (smV_bd _ _) (lnO x.2.2.2) (by omega)) rfl (by decide) (fun _ _ => ?_)
      refine TL.call rfl Tb.gofn_81 (fun a w hs => cutP_ok w x.2.2.2 _) rfl (by decide) (fun _ _ => ?_)
      refine TL.pure (PV.move rfl) rfl (by decide) ?_
      refine TL.pure (PV.extract rfl rfl) rfl (by decide) ?_
      refine TL.pure (PV.extract rfl rfl) rfl (by decide) ?_
      refine TL.pure (PV.assign rfl) rfl (by decide) ?_
      refine TL.pure (PV.assign rfl) rfl (by decide) ?_
      refine TL.nil ?_
      refine TQ.thenC ?_
      refine TC.seq ?_
      refine TC.seq ?_
      refine TC.region ?_
      refine TL.pure (PV.move rfl) rfl (by decide) ?_
      refine TL.pure ((by first | exact PV.notD rfl | exact PV.not rfl)) rfl (by decide) ?_
      refine TL.nil ?_
      refine TQ.thenC ?_
      first | refine TC.condD rfl (fun hnp => ?_) (fun hnp => ?_) | refine TC.cond rfl (fun hnp => ?_) (fun hnp => ?_)
      · have hp0 : ¬ (pageL dI (smV x.2.2.1 (lnO x.2.2.2)) (lnO x.2.2.2)).isPrefixOf x.2.2.2 = true := by first | exact hnp | (rw [Bool.not_eq_true]; simpa using hnp)
        refine TC.exit ?_
        refine TQ.thenE ?_
        refine TQ.blkE (by decide) ?_
        refine TQ.thenE ?_
        refine TQ.blkS ?_
        refine TQ.thenC ?_
        refine TC.seq ?_
        refine TC.region ?_
        refine TL.pure (PV.move rfl) rfl (by decide) ?_
        refine TL.pure (PV.move rfl) rfl (by decide) ?_
        refine TL.pure (PV.assign rfl) rfl (by decide) ?_
        refine TL.pure (PV.assign rfl) rfl (by decide) ?_
        refine TL.nil ?_
        refine TQ.thenC ?_
        refine TC.ret ?_
        refine TQ.retE2 rfl rfl rfl ?_
        have e := hx.2.stop (pg_pre hp0)
        exact ⟨x.1, by rw [e]; exact congrArg (fun v => Value.tuple #[v, str x.2.2.2]) (ords_len hx.1), by rw [e]; exact hx.1, by rw [e]; exact List.sublist_append_left _ _⟩
      · have hp1 : (pageL dI (smV x.2.2.1 (lnO x.2.2.2)) (lnO x.2.2.2)).isPrefixOf x.2.2.2 = true := by first | exact hnp | simpa using hnp
        rw [if_pos hp1]
        refine TC.skip ?_
        refine TQ.thenC ?_
        refine TC.region ?_
        refine TL.pure (PV.move rfl) rfl (by decide) ?_
        refine TL.pure (PV.move rfl) rfl (by decide) ?_
        refine TL.buildSlice (cs := #[str (lnO x.2.2.2)]) rfl Tb.sl_43 Tb.zi_9 (by decide) (fill_s (lnO x.2.2.2)) (by decide) rfl (by decide) (fun bI hbI => ?_)
        refine TL.appendRec (R := stR) (h0 := x.1) (ys := x.2.1) (r := lnO x.2.2.2) Tb.sl_43 Tb.zi_9 rfl rfl rfl (by repeat (first | exact List.Mem.head _ | refine List.Mem.tail _ ?_ | refine List.mem_append_right _ ?_)) hx.1 (by repeat (first | exact TakeH.here _ _ _ _ | apply TakeH.tail | apply TakeH.app)) (by omega) (by omega) rfl (by decide) (fun h9 ho9 => ?_)
        refine TL.pure (PV.move rfl) rfl (by decide) ?_
        refine TL.pure (PV.assign rfl) rfl (by decide) ?_
        refine TL.pure (PV.assign rfl) rfl (by decide) ?_
        refine TL.nil ?_
        refine TQ.blkN ?_
        refine TQ.thenN ?_
        refine TQ.backK (h9, x.2.1 ++ [lnO x.2.2.2], smV x.2.2.1 (lnO x.2.2.2), x.2.2.2.drop (pageL dI (smV x.2.2.1 (lnO x.2.2.2)) (lnO x.2.2.2)).length) (by repeat (first | exact True.intro | refine And.intro rfl ?_)) (by repeat (first | exact True.intro | refine And.intro rfl ?_)) (List.Sublist.append (List.Sublist.refl _) (List.nil_sublist _)) ⟨ho9, hx.2.next (by omega) (pg_yes hr1 hp1)⟩ (by simp only [List.length_append, List.length_cons, List.length_nil]; omega)
  · refine TC.exit ?_
    refine TQ.thenE ?_
    refine TQ.thenE ?_
    refine TQ.blkS ?_
    refine TQ.thenC ?_
    refine TC.seq ?_
    refine TC.region ?_
    refine TL.pure (PV.move rfl) rfl (by decide) ?_
    refine TL.pure (PV.move rfl) rfl (by decide) ?_
    refine TL.pure (PV.assign rfl) rfl (by decide) ?_
    refine TL.pure (PV.assign rfl) rfl (by decide) ?_
    refine TL.nil ?_
    refine TQ.thenC ?_
    refine TC.ret ?_
    refine TQ.retE2 rfl rfl rfl ?_
    have e := hx.2.full (by omega)
    exact ⟨x.1, by rw [e]; exact congrArg (fun v => Value.tuple #[v, str x.2.2.2]) (ords_len hx.1), by rw [e]; exact hx.1, by rw [e]; exact List.sublist_append_left _ _⟩

end Go.Proofs.YtbnjmkidbfmomaaGreatDoor

/- Reading a book: the document's contract. -/
namespace Go.Proofs.YtbnjmkidbfmomaaGreatDoor
open Go.Sx Go.RowKit Go.Bt Go.Lib Go.Sand

section
variable {P : Program} {n : Nat} {w0 : World} {E : Env} {G : Heap} {d : Option Nat} {ty : TypeId} {pos : String} {aft : Array Edge} {g : Option (Nat × Bool)}
theorem PV.neqU8 {x : Operand} {c c0 : UInt8} {t t' : TypeId} {z : Value} (hx : evo E x = some (.int .u8 (c.toNat : Int))) (hz : z = .int .u8 (c0.toNat : Int)) : PV P n w0 E G ⟨d, .binOp .neq t x (.const z) t', ty, pos, aft, g⟩ (.bool (decide (c ≠ c0))) := by
  subst hz
  have h : PV P n w0 E G ⟨d, .binOp .neq t x (.const (.int .u8 (c0.toNat : Int))) t', ty, pos, aft, g⟩ (.bool (decide ((c.toNat : Int) ≠ c0.toNat))) := fun a w hs => by
    simp only [execOp, hs.ev hx]
    simp [go_sem]
    rw [Bool.eq_iff_iff]; simp
  have e : decide ((c.toNat : Int) ≠ c0.toNat) = decide (c ≠ c0) := decide_eq_decide.2 (not_congr ⟨fun h => UInt8.toNat_inj.1 (by omega), fun h => by subst h; rfl⟩)
  rwa [e] at h
theorem str_size (L : List UInt8) : (⟨L.toArray⟩ : ByteArray).size = L.length := by simp [ByteArray.size]
theorem PV.slS {x y z : Operand} {L : List UInt8} {t : TypeId} {i j : Int} {l h : Nat} (hx : evo E x = some (str L)) (hy : evo E y = some (.int .i64 i)) (hz : evo E z = some (.int .i64 j)) (ht : P.underlying t = some .string) (hi : i = (l : Int)) (hj : j = (h : Int)) (hlh : l ≤ h) (hh : h ≤ L.length) :
    PV P n w0 E G ⟨d, .slice t x (some y) (some z) none, ty, pos, aft, g⟩ (str ((L.drop l).take (h - l))) := fun a w hs => by
  subst hi; subst hj
  simp only [execOp, hs.ev hx, Option.map_some, Option.map_none, hs.ev hy, hs.ev hz]
  have h2 := run_slice_string (P := P) w t ⟨L.toArray⟩ .i64 .i64 l h ht (by omega) (by omega) (by rw [str_size]; omega)
  rw [Int.toNat_natCast, Int.toNat_natCast, ByteArray.extract_mk] at h2
  simp [str, run_sliceAt_string _ _ _ _ _ _ ht, h2]
theorem PV.slSf {x y : Operand} {L : List UInt8} {t : TypeId} {i : Int} {l : Nat} (hx : evo E x = some (str L)) (hy : evo E y = some (.int .i64 i)) (ht : P.underlying t = some .string) (hi : i = (l : Int)) (hh : l ≤ L.length) :
    PV P n w0 E G ⟨d, .slice t x (some y) none none, ty, pos, aft, g⟩ (str (L.drop l)) := fun a w hs => by
  subst hi
  simp only [execOp, hs.ev hx, Option.map_some, Option.map_none, hs.ev hy]
  have h2 := run_slice_string_from_if (P := P) w t ⟨L.toArray⟩ .i64 l ht
  rw [if_pos ⟨by omega, by rw [str_size]; omega⟩, Int.toNat_natCast, str_size, ByteArray.extract_mk, show (L.drop l).take (L.length - l) = L.drop l from List.take_of_length_le (by simp)] at h2
  simp [str, run_sliceAt_string _ _ _ _ _ _ ht, h2]
theorem PV.slSt {x z : Operand} {L : List UInt8} {t : TypeId} {j : Int} {h : Nat} (hx : evo E x = some (str L)) (hz : evo E z = some (.int .i64 j)) (ht : P.underlying t = some .string) (hj : j = (h : Int)) (hh : h ≤ L.length) :
    PV P n w0 E G ⟨d, .slice t x none (some z) none, ty, pos, aft, g⟩ (str (L.take h)) := fun a w hs => by
  subst hj
  simp only [execOp, hs.ev hx, Option.map_some, Option.map_none, hs.ev hz]
  have h2 := run_slice_string_to_if (P := P) w t ⟨L.toArray⟩ .i64 h ht
  rw [if_pos ⟨by omega, by rw [str_size]; omega⟩, Int.toNat_natCast, ByteArray.extract_mk, List.drop_zero, Nat.sub_zero] at h2
  simp [str, run_sliceAt_string _ _ _ _ _ _ ht, h2]
end
/-- Where a byte is first, if it is. -/
structure Stp (c : UInt8) (l : List UInt8) (m k : Nat) : Prop where
  le : k ≤ m
  no : ∀ j, j < k → l.getD j 0 ≠ c
  at_ : k < m → l.getD k 0 = c
theorem Stp.notin {c : UInt8} {l : List UInt8} {m k : Nat} (h : Stp c l m k) (hm : m ≤ l.length) : c ∉ l.take k := fun hc => by
  obtain ⟨j, hj, e⟩ := List.getElem_of_mem hc
  rw [List.length_take] at hj
  refine h.no j (by omega) ?_
  rw [List.getElem_take] at e
  rw [List.getD_eq_getElem?_getD, List.getElem?_eq_getElem (by omega)]; exact e
theorem Stp.miss {c : UInt8} {l : List UInt8} {m k : Nat} (h : Stp c l m k) (hm : m ≤ l.length) (hk : k = m) : brk c (l.take m) = (l.take m, none) := by
  subst hk; exact brk_miss (h.notin hm)
theorem Stp.hit {c : UInt8} {l : List UInt8} {m k : Nat} (h : Stp c l m k) (hm : m ≤ l.length) (hk : k < m) : brk c (l.take m) = (l.take k, some ((l.drop (k + 1)).take (m - (k + 1)))) := by
  have e : l.take m = l.take k ++ c :: (l.drop (k + 1)).take (m - (k + 1)) := by
    have h1 : l.take m = (l.take m).take k ++ (l.take m).drop k := (List.take_append_drop k _).symm
    have h2 : (l.take m).take k = l.take k := by rw [List.take_take, Nat.min_eq_left (by omega)]
    have h3 : (l.take m).drop k = c :: (l.drop (k + 1)).take (m - (k + 1)) := by
      rw [List.drop_eq_getElem_cons (by rw [List.length_take]; omega), List.drop_take, List.getElem_take]
      have := h.at_ hk
      rw [List.getD_eq_getElem?_getD, List.getElem?_eq_getElem (by omega)] at this
      exact congrArg (· :: _) this
    rw [h1, h2, h3]
  rw [e]; exact brk_hit (h.notin hm)
section
variable {r : List UInt8} {k i : Nat} {sum : Int}
theorem pg_n1 (h : Stp 10 r r.length k) (hk : k = r.length) : pgF sum r = none := by
  have := h.miss (Nat.le_refl _) hk
  rw [List.take_length] at this
  unfold pgF; rw [this]
theorem st_line (h : Stp 10 r r.length k) (hk : k < r.length) : brk 10 r = (r.take k, some (r.drop (k + 1))) := by
  have := h.hit (Nat.le_refl _) hk
  rw [List.take_length, List.take_of_length_le (l := r.drop (k + 1)) (by rw [List.length_drop]; omega)] at this
  exact this
theorem pg_n2 (h : Stp 10 r r.length k) (hk : k < r.length) (h2 : Stp 32 r k i) (hi : i = k) : pgF sum r = none := by
  unfold pgF; rw [st_line h hk]; simp only; rw [h2.miss (by omega) hi]
theorem pg_n3 (h : Stp 10 r r.length k) (hk : k < r.length) (h2 : Stp 32 r k i) (hi : i < k) (h3 : rightS ((r.drop (i + 1)).take (k - (i + 1))) = false) : pgF sum r = none := by
  unfold pgF; rw [st_line h hk]; simp only; rw [h2.hit (by omega) hi]; simp only; rw [h3]; simp
theorem pg_n4 (h : Stp 10 r r.length k) (hk : k < r.length) (h2 : Stp 32 r k i) (hi : i < k) (h4 : itoa (smV sum ((r.drop (i + 1)).take (k - (i + 1)))) ≠ r.take i) : pgF sum r = none := by
  unfold pgF; rw [st_line h hk]; simp only; rw [h2.hit (by omega) hi]; simp only; rw [if_neg (fun h => h4 h.2)]
theorem pg_n5 (h : Stp 10 r r.length k) (hk : k < r.length) (h2 : Stp 32 r k i) (hi : i < k) (h3 : rightS ((r.drop (i + 1)).take (k - (i + 1))) = true) (h4 : itoa (smV sum ((r.drop (i + 1)).take (k - (i + 1)))) = r.take i) : PgR sum r ((r.drop (i + 1)).take (k - (i + 1))) (r.drop (k + 1)) := by
  refine pg_to ?_
  unfold pgF; rw [st_line h hk]; simp only; rw [h2.hit (by omega) hi]; simp only; rw [if_pos ⟨h3, h4⟩]
end

set_option maxRecDepth 100000 in
set_option maxHeartbeats 2000000 in
theorem rRead_ok (w0 : World) (hW : WAt w0) (t : List UInt8) (ht : t.length ≤ 1000000) :
    Calls Tryz.prog 44 #[str t] w0 (Post (X := HD) (fun h => .tuple #[.slice (gp h) (readL t).1.length (gc h), str (readL t).2]) (fun h => goR stR h (readL t).1) (fun h => gbR stR 9 h (readL t).1) w0) := by
  refine calls Tryz.func44 rfl (n := 79) rfl (by simp) ?_
  refine TC.seq ?_
  refine TC.region ?_
  refine TL.pure (PV.assign rfl) rfl (by decide) ?_
  refine TL.pure (PV.assign rfl) rfl (by decide) ?_
  refine TL.nil ?_
  refine TQ.thenC ?_
  refine TC.seq ?_
  refine TC.region ?_
  refine TL.pure (PV.assign rfl) rfl (by decide) ?_
  refine TL.nil ?_
  refine TQ.thenC ?_
  refine TC.seq ?_
  refine TC.region ?_
  refine TL.pure (PV.assign rfl) rfl (by decide) ?_
  refine TL.nil ?_
  refine TQ.thenC ?_
  refine TC.seq ?_
  refine TC.block ?_
  refine TC.loopK [2, 3] (X := HD × List (List UInt8) × Int × List UInt8) (fun x => goR stR x.1 x.2.1 ∧ RdS t x.2.1 x.2.2.1 x.2.2.2) (fun x => [(4, gval x.1 x.2.1.length), (5, .int .i64 x.2.2.1), (0, str x.2.2.2)]) (fun x => gbR stR 9 x.1 x.2.1 ++ []) (fun x => 100 - x.2.1.length) (none, [], 0, t) ⟨⟨rfl, rfl⟩, RdS.zero t⟩ (by repeat (first | exact True.intro | refine And.intro rfl ?_)) (List.Sublist.refl _) ?_
  intro x hx
  refine TC.seq ?_
  refine TC.seq ?_
  refine TC.region ?_
  refine TL.pure (PV.move rfl) rfl (by decide) ?_
  refine TL.pure (PV.lenO rfl hx.1) rfl (by decide) ?_
  refine TL.pure (PV.lss rfl rfl) rfl (by decide) ?_
  refine TL.nil ?_
  refine TQ.thenC ?_
  first | refine TC.condD rfl (fun hlt => ?_) (fun hlt => ?_) | refine TC.cond rfl (fun hlt => ?_) (fun hlt => ?_)
  · refine TC.skip ?_
    refine TQ.thenC ?_
    refine TC.block ?_
    refine TC.seq ?_
    have hle := hx.2.len
    have hsm := hx.2.sm
    refine TC.region ?_
    refine TL.pure (PV.assign rfl) rfl (by decide) ?_
    refine TL.pure (PV.assign rfl) rfl (by decide) ?_
    refine TL.nil ?_
    refine TQ.thenC ?_
    refine TC.seqK [0, 2, 3, 4, 5, 6] (X := Nat) (fun k => Stp 10 x.2.2.2 x.2.2.2.length k) (fun k => [(7, .int .i64 (k : Nat))]) (fun k => gbR stR 9 x.1 x.2.1 ++ []) ?_ ?_
    · refine TC.block ?_
      refine TC.loopK [0, 2, 3, 4, 5, 6] (X := Nat) (fun k => k ≤ x.2.2.2.length ∧ ∀ j, j < k → x.2.2.2.getD j 0 ≠ 10) (fun k => [(7, .int .i64 (k : Nat))]) (fun k => gbR stR 9 x.1 x.2.1 ++ []) (fun k => x.2.2.2.length - k) 0 ⟨Nat.zero_le _, fun j hj => absurd hj (Nat.not_lt_zero _)⟩ (by repeat (first | exact True.intro | refine And.intro rfl ?_)) (List.Sublist.refl _) ?_
      intro k hk
      have hk1 := hk.1
      refine TC.seq ?_
      refine TC.seq ?_
      refine TC.region ?_
      refine TL.pure (PV.move rfl) rfl (by decide) ?_
      refine TL.pure (PV.move rfl) rfl (by decide) ?_
      refine TL.pure (PV.lenS rfl Tb.str_9) rfl (by decide) ?_
      refine TL.pure (PV.lss rfl rfl) rfl (by decide) ?_
      refine TL.pure (PV.move rfl) rfl (by decide) ?_
      first | refine TL.splitD 16 rfl (fun ha => ?_) (fun ha => ?_) | refine TL.split 16 rfl (fun ha => ?_) (fun ha => ?_)
      · refine TL.pure (PV.move rfl) rfl (by decide) ?_
        refine TL.pure (PV.move rfl) rfl (by decide) ?_
        refine TL.pure (PV.indexS (j := k) rfl rfl Tb.str_9 rfl (by omega)) rfl (by decide) ?_
        refine TL.pure (PV.neqU8 (c0 := 10) rfl rfl) rfl (by decide) ?_
        refine TL.pure (PV.pickT rfl rfl) rfl (by decide) ?_
        refine TL.nil ?_
        refine TQ.thenC ?_
        first | refine TC.condD rfl (fun ha2 => ?_) (fun ha2 => ?_) | refine TC.cond rfl (fun ha2 => ?_) (fun ha2 => ?_)
        · refine TC.skip ?_
          refine TQ.thenC ?_
          refine TC.block ?_
          refine TC.region ?_
          refine TL.pure (PV.move rfl) rfl (by decide) ?_
          refine TL.pure (PV.add rfl rfl (by omega)) rfl (by decide) ?_
          refine TL.pure (PV.assign rfl) rfl (by decide) ?_
          refine TL.nil ?_
          refine TQ.blkN ?_
          refine TQ.thenN ?_
          refine TQ.backK (k + 1) (by repeat (first | exact True.intro | refine And.intro rfl ?_)) (by repeat (first | exact True.intro | refine And.intro rfl ?_)) (List.Sublist.refl _) ⟨by omega, fun j hj => if e : j < k then hk.2 j e else (show k = j by omega) ▸ ha2⟩ (by omega)
        · refine TC.exit ?_
          refine TQ.thenE ?_
          refine TQ.thenE ?_
          refine TQ.blkS ?_
          refine TQ.thenN ?_
          refine TQ.midK k (by repeat (first | exact True.intro | refine And.intro rfl ?_)) (by repeat (first | exact True.intro | refine And.intro rfl ?_)) (List.Sublist.refl _) (by first | exact ⟨hk.1, hk.2, fun h9 => absurd h9 (by omega)⟩ | exact ⟨hk.1, hk.2, fun _ => Decidable.not_not.1 ha2⟩)
      · refine TL.skip rfl (fun k hk => by cases hk; decide) ?_
        refine TL.skip rfl (fun k hk => by cases hk; decide) ?_
        refine TL.skip rfl (fun k hk => by cases hk; decide) ?_
        refine TL.skip rfl (fun k hk => by cases hk; decide) ?_
        refine TL.pure (PV.pickF rfl rfl) rfl (by decide) ?_
        refine TL.nil ?_
        refine TQ.thenC ?_
        refine TC.condF rfl ?_
        refine TC.exit ?_
        refine TQ.thenE ?_
        refine TQ.thenE ?_
        refine TQ.blkS ?_
        refine TQ.thenN ?_
        refine TQ.midK k (by repeat (first | exact True.intro | refine And.intro rfl ?_)) (by repeat (first | exact True.intro | refine And.intro rfl ?_)) (List.Sublist.refl _) (by first | exact ⟨hk.1, hk.2, fun h9 => absurd h9 (by omega)⟩ | exact ⟨hk.1, hk.2, fun _ => Decidable.not_not.1 ha2⟩)
    · intro k hA
      have hkl0 := hA.le
      refine TC.seqK [0, 2, 3, 4, 5, 7] (X := Nat) (fun i => Stp 32 x.2.2.2 k i) (fun i => [(6, .int .i64 (i : Nat))]) (fun i => gbR stR 9 x.1 x.2.1 ++ []) ?_ ?_
      · refine TC.block ?_
        refine TC.loopK [0, 2, 3, 4, 5, 7] (X := Nat) (fun i => i ≤ k ∧ ∀ j, j < i → x.2.2.2.getD j 0 ≠ 32) (fun i => [(6, .int .i64 (i : Nat))]) (fun i => gbR stR 9 x.1 x.2.1 ++ []) (fun i => k - i) 0 ⟨Nat.zero_le _, fun j hj => absurd hj (Nat.not_lt_zero _)⟩ (by repeat (first | exact True.intro | refine And.intro rfl ?_)) (List.Sublist.refl _) ?_
        intro i hi
        have hi1 := hi.1
        refine TC.seq ?_
        refine TC.seq ?_
        refine TC.region ?_
        refine TL.pure (PV.move rfl) rfl (by decide) ?_
        refine TL.pure (PV.move rfl) rfl (by decide) ?_
        refine TL.pure (PV.lss rfl rfl) rfl (by decide) ?_
        refine TL.pure (PV.move rfl) rfl (by decide) ?_
        first | refine TL.splitD 27 rfl (fun hb => ?_) (fun hb => ?_) | refine TL.split 27 rfl (fun hb => ?_) (fun hb => ?_)
        · refine TL.pure (PV.move rfl) rfl (by decide) ?_
          refine TL.pure (PV.move rfl) rfl (by decide) ?_
          refine TL.pure (PV.indexS (j := i) rfl rfl Tb.str_9 rfl (by omega)) rfl (by decide) ?_
          refine TL.pure (PV.neqU8 (c0 := 32) rfl rfl) rfl (by decide) ?_
          refine TL.pure (PV.pickT rfl rfl) rfl (by decide) ?_
          refine TL.nil ?_
          refine TQ.thenC ?_
          first | refine TC.condD rfl (fun hb2 => ?_) (fun hb2 => ?_) | refine TC.cond rfl (fun hb2 => ?_) (fun hb2 => ?_)
          · refine TC.skip ?_
            refine TQ.thenC ?_
            refine TC.block ?_
            refine TC.region ?_
            refine TL.pure (PV.move rfl) rfl (by decide) ?_
            refine TL.pure (PV.add rfl rfl (by omega)) rfl (by decide) ?_
            refine TL.pure (PV.assign rfl) rfl (by decide) ?_
            refine TL.nil ?_
            refine TQ.blkN ?_
            refine TQ.thenN ?_
            refine TQ.backK (i + 1) (by repeat (first | exact True.intro | refine And.intro rfl ?_)) (by repeat (first | exact True.intro | refine And.intro rfl ?_)) (List.Sublist.refl _) ⟨by omega, fun j hj => if e : j < i then hi.2 j e else (show i = j by omega) ▸ hb2⟩ (by omega)
          · refine TC.exit ?_
            refine TQ.thenE ?_
            refine TQ.thenE ?_
            refine TQ.blkS ?_
            refine TQ.thenN ?_
            refine TQ.midK i (by repeat (first | exact True.intro | refine And.intro rfl ?_)) (by repeat (first | exact True.intro | refine And.intro rfl ?_)) (List.Sublist.refl _) (by first | exact ⟨hi.1, hi.2, fun h9 => absurd h9 (by omega)⟩ | exact ⟨hi.1, hi.2, fun _ => Decidable.not_not.1 hb2⟩)
        · refine TL.skip rfl (fun k hk => by cases hk; decide) ?_
          refine TL.skip rfl (fun k hk => by cases hk; decide) ?_
          refine TL.skip rfl (fun k hk => by cases hk; decide) ?_
          refine TL.skip rfl (fun k hk => by cases hk; decide) ?_
          refine TL.pure (PV.pickF rfl rfl) rfl (by decide) ?_
          refine TL.nil ?_
          refine TQ.thenC ?_
          refine TC.condF rfl ?_
          refine TC.exit ?_
          refine TQ.thenE ?_
          refine TQ.thenE ?_
          refine TQ.blkS ?_
          refine TQ.thenN ?_
          refine TQ.midK i (by repeat (first | exact True.intro | refine And.intro rfl ?_)) (by repeat (first | exact True.intro | refine And.intro rfl ?_)) (List.Sublist.refl _) (by first | exact ⟨hi.1, hi.2, fun h9 => absurd h9 (by omega)⟩ | exact ⟨hi.1, hi.2, fun _ => Decidable.not_not.1 hb2⟩)
      · intro i hB
        refine TC.seq ?_
        refine TC.seq ?_
        have hkl := hA.le
        have hil := hB.le
        refine TC.region ?_
        refine TL.pure (PV.move rfl) rfl (by decide) ?_
        refine TL.pure (PV.move rfl) rfl (by decide) ?_
        refine TL.pure (PV.lenS rfl Tb.str_9) rfl (by decide) ?_
        refine TL.pure (PV.eql rfl rfl) rfl (by decide) ?_
        refine TL.pure (PV.move rfl) rfl (by decide) ?_
        first | refine TL.splitD 39 rfl (fun hc1 => ?_) (fun hc1 => ?_) | refine TL.split 39 rfl (fun hc1 => ?_) (fun hc1 => ?_)
        · refine TL.skip rfl (fun k hk => by cases hk; decide) ?_
          refine TL.skip rfl (fun k hk => by cases hk; decide) ?_
          refine TL.skip rfl (fun k hk => by cases hk; decide) ?_
          refine TL.pure (PV.pickT rfl rfl) rfl (by decide) ?_
          refine TL.pure (PV.move rfl) rfl (by decide) ?_
          refine TL.skip rfl (fun k hk => by cases hk; decide) ?_
          refine TL.skip rfl (fun k hk => by cases hk; decide) ?_
          refine TL.skip rfl (fun k hk => by cases hk; decide) ?_
          refine TL.skip rfl (fun k hk => by cases hk; decide) ?_
          refine TL.skip rfl (fun k hk => by cases hk; decide) ?_
          refine TL.skip rfl (fun k hk => by cases hk; decide) ?_
          refine TL.skip rfl (fun k hk => by cases hk; decide) ?_
          refine TL.pure (PV.pickT rfl rfl) rfl (by decide) ?_
          refine TL.nil ?_
          refine TQ.thenC ?_
          refine TC.condT rfl ?_
          refine TC.exit ?_
          refine TQ.thenE ?_
          refine TQ.blkE (by decide) ?_
          refine TQ.thenE ?_
          refine TQ.blkS ?_
          refine TQ.thenC ?_
          refine TC.seq ?_
          refine TC.region ?_
          refine TL.pure (PV.move rfl) rfl (by decide) ?_
          refine TL.pure (PV.move rfl) rfl (by decide) ?_
          refine TL.pure (PV.assign rfl) rfl (by decide) ?_
          refine TL.pure (PV.assign rfl) rfl (by decide) ?_
          refine TL.nil ?_
          refine TQ.thenC ?_
          refine TC.ret ?_
          refine TQ.retE2 rfl rfl rfl ?_
          have e := hx.2.stop (pg_n1 hA (by omega))
          exact ⟨x.1, by rw [e]; exact congrArg (fun v => Value.tuple #[v, str x.2.2.2]) (ords_len hx.1), by rw [e]; exact hx.1, by rw [e]; exact List.sublist_append_left _ _⟩
        · refine TL.pure (PV.move rfl) rfl (by decide) ?_
          refine TL.pure (PV.move rfl) rfl (by decide) ?_
          refine TL.pure (PV.eql rfl rfl) rfl (by decide) ?_
          refine TL.pure (PV.pickF rfl rfl) rfl (by decide) ?_
          refine TL.pure (PV.move rfl) rfl (by decide) ?_
          first | refine TL.splitD 44 rfl (fun hc2 => ?_) (fun hc2 => ?_) | refine TL.split 44 rfl (fun hc2 => ?_) (fun hc2 => ?_)
          · refine TL.skip rfl (fun k hk => by cases hk; decide) ?_
            refine TL.skip rfl (fun k hk => by cases hk; decide) ?_
            refine TL.skip rfl (fun k hk => by cases hk; decide) ?_
            refine TL.skip rfl (fun k hk => by cases hk; decide) ?_
            refine TL.skip rfl (fun k hk => by cases hk; decide) ?_
            refine TL.skip rfl (fun k hk => by cases hk; decide) ?_
            refine TL.skip rfl (fun k hk => by cases hk; decide) ?_
            refine TL.pure (PV.pickT rfl rfl) rfl (by decide) ?_
            refine TL.nil ?_
            refine TQ.thenC ?_
            refine TC.condT rfl ?_
            refine TC.exit ?_
            refine TQ.thenE ?_
            refine TQ.blkE (by decide) ?_
            refine TQ.thenE ?_
            refine TQ.blkS ?_
            refine TQ.thenC ?_
            refine TC.seq ?_
            refine TC.region ?_
            refine TL.pure (PV.move rfl) rfl (by decide) ?_
            refine TL.pure (PV.move rfl) rfl (by decide) ?_
            refine TL.pure (PV.assign rfl) rfl (by decide) ?_
            refine TL.pure (PV.assign rfl) rfl (by decide) ?_
            refine TL.nil ?_
            refine TQ.thenC ?_
            refine TC.ret ?_
            refine TQ.retE2 rfl rfl rfl ?_
            have e := hx.2.stop (pg_n2 hA (by omega) hB (by omega))
            exact ⟨x.1, by rw [e]; exact congrArg (fun v => Value.tuple #[v, str x.2.2.2]) (ords_len hx.1), by rw [e]; exact hx.1, by rw [e]; exact List.sublist_append_left _ _⟩
          · refine TL.pure (PV.move rfl) rfl (by decide) ?_
            refine TL.pure (PV.move rfl) rfl (by decide) ?_
            refine TL.pure (PV.add rfl rfl (by omega)) rfl (by decide) ?_
            refine TL.pure (PV.move rfl) rfl (by decide) ?_
            refine TL.pure (PV.slS (l := i + 1) (h := k) rfl rfl rfl Tb.str_9 rfl rfl (by omega) (by omega)) rfl (by decide) ?_
            refine TL.call rfl Tb.gofn_83 (fun a w hs => Right_ok w ((x.2.2.2.drop (i + 1)).take (k - (i + 1))) (by rw [List.length_take, List.length_drop]; omega)) rfl (by decide) (fun _ _ => ?_)
            refine TL.pure ((by first | exact PV.notD rfl | exact PV.not rfl)) rfl (by decide) ?_
            refine TL.pure (PV.pickF rfl rfl) rfl (by decide) ?_
            refine TL.nil ?_
            refine TQ.thenC ?_
            first | refine TC.condD rfl (fun hc3 => ?_) (fun hc3 => ?_) | refine TC.cond rfl (fun hc3 => ?_) (fun hc3 => ?_)
            · have hr0 : rightS ((x.2.2.2.drop (i + 1)).take (k - (i + 1))) = false := decide_eq_false hc3
              refine TC.exit ?_
              refine TQ.thenE ?_
              refine TQ.blkE (by decide) ?_
              refine TQ.thenE ?_
              refine TQ.blkS ?_
              refine TQ.thenC ?_
              refine TC.seq ?_
              refine TC.region ?_
              refine TL.pure (PV.move rfl) rfl (by decide) ?_
              refine TL.pure (PV.move rfl) rfl (by decide) ?_
              refine TL.pure (PV.assign rfl) rfl (by decide) ?_
              refine TL.pure (PV.assign rfl) rfl (by decide) ?_
              refine TL.nil ?_
              refine TQ.thenC ?_
              refine TC.ret ?_
              refine TQ.retE2 rfl rfl rfl ?_
              have e := hx.2.stop (pg_n3 hA (by omega) hB (by omega) hr0)
              exact ⟨x.1, by rw [e]; exact congrArg (fun v => Value.tuple #[v, str x.2.2.2]) (ords_len hx.1), by rw [e]; exact hx.1, by rw [e]; exact List.sublist_append_left _ _⟩
            · have hr1 : rightS ((x.2.2.2.drop (i + 1)).take (k - (i + 1))) = true := decide_eq_true (by simpa using hc3)
              refine TC.skip ?_
              refine TQ.thenC ?_
              refine TC.seq ?_
              have hsl : ((x.2.2.2.drop (i + 1)).take (k - (i + 1))).length ≤ 1000000 := by rw [List.length_take, List.length_drop]; omega
              refine TC.region ?_
              refine TL.pure (PV.move rfl) rfl (by decide) ?_
              refine TL.pure (PV.move rfl) rfl (by decide) ?_
              refine TL.pure (PV.add rfl rfl (by omega)) rfl (by decide) ?_
              refine TL.pure (PV.move rfl) rfl (by decide) ?_
              refine TL.pure (PV.slS (l := i + 1) (h := k) rfl rfl rfl Tb.str_9 rfl rfl (by omega) (by omega)) rfl (by decide) ?_
              refine TL.pure (PV.assign rfl) rfl (by decide) ?_
              refine TL.nil ?_
              refine TQ.thenC ?_
              refine TC.seq ?_
              refine TC.seq ?_
              refine TC.mixV [true, true, false, false, true, true, true, true] [] 8 Tb.mixed rfl (by kernel_rfl) (by kernel_rfl) (by kernel_rfl) (by kernel_rfl) (by repeat (first | exact .slnil | exact List.nil_sublist _ | exact .refl _ | refine .cons_cons _ ?_ | refine .cons _ ?_ | refine .trans ?_ (List.sublist_append_right _ _))) ?_
              refine TV.virt 0 rfl rfl (by decide) rfl (by kernel_rfl) (SOK.pure (PV.move rfl) rfl) ?_
              refine TV.virt 1 rfl rfl (by decide) rfl (by kernel_rfl) (SOK.pure (PV.move rfl) rfl) ?_
              refine TV.virt 4 rfl rfl (by decide) rfl (by kernel_rfl) (SOK.pure (PV.move rfl) rfl) ?_
              refine TV.virt 5 rfl rfl (by decide) rfl (by kernel_rfl) (SOK.pure (PV.move rfl) rfl) ?_
              refine TV.virt 6 rfl rfl (by decide) rfl (by kernel_rfl) (SOK.pure (PV.slSt (h := i) rfl rfl Tb.str_9 rfl (by omega)) rfl) ?_
              refine TV.step [2] (by kernel_rfl) (by decide) rfl ⟨⟨_, rfl, ?_⟩, trivial⟩
              refine TL.call rfl Tb.gofn_47 (fun a w hs => rSum_ok w x.2.2.1 (by omega) ((x.2.2.2.drop (i + 1)).take (k - (i + 1))) hsl) rfl (by decide) (fun _ _ => ?_)
              refine TL.nil ?_
              refine TV.next (.inl (by repeat (first | exact .slnil | exact List.nil_sublist _ | exact .refl _ | refine .cons_cons _ ?_ | refine .cons _ ?_ | refine .trans ?_ (List.sublist_append_right _ _)))) ?_
              refine TV.step [3] (by kernel_rfl) (by decide) rfl ⟨⟨_, rfl, ?_⟩, trivial⟩
              refine TL.call rfl Tb.gofn_78 (fun a w hs => itoa_ok w (hW.new hs.new) _ (by have := (smV_bd x.2.2.1 ((x.2.2.2.drop (i + 1)).take (k - (i + 1)))).1; omega) (by have := (smV_bd x.2.2.1 ((x.2.2.2.drop (i + 1)).take (k - (i + 1)))).2; omega)) rfl (by decide) (fun _ _ => ?_)
              refine TL.nil ?_
              refine TV.next (.inl (by repeat (first | exact .slnil | exact List.nil_sublist _ | exact .refl _ | refine .cons_cons _ ?_ | refine .cons _ ?_ | refine .trans ?_ (List.sublist_append_right _ _)))) ?_
              refine TV.virt 7 rfl rfl (by decide) rfl (by kernel_rfl) (SOK.pure (PV.neqS rfl rfl) rfl) ?_
              refine TV.done (by kernel_rfl) ?_
              refine TQ.thenC ?_
              first | refine TC.condD rfl (fun hc4 => ?_) (fun hc4 => ?_) | refine TC.cond rfl (fun hc4 => ?_) (fun hc4 => ?_)
              · have hd0 : itoa (smV x.2.2.1 ((x.2.2.2.drop (i + 1)).take (k - (i + 1)))) ≠ x.2.2.2.take i := hc4
                refine TC.exit ?_
                refine TQ.thenE ?_
                refine TQ.blkE (by decide) ?_
                refine TQ.thenE ?_
                refine TQ.blkS ?_
                refine TQ.thenC ?_
                refine TC.seq ?_
                refine TC.region ?_
                refine TL.pure (PV.move rfl) rfl (by decide) ?_
                refine TL.pure (PV.move rfl) rfl (by decide) ?_
                refine TL.pure (PV.assign rfl) rfl (by decide) ?_
                refine TL.pure (PV.assign rfl) rfl (by decide) ?_
                refine TL.nil ?_
                refine TQ.thenC ?_
                refine TC.ret ?_
                refine TQ.retE2 rfl rfl rfl ?_
                have e := hx.2.stop (pg_n4 hA (by omega) hB (by omega) hd0)
                exact ⟨x.1, by rw [e]; exact congrArg (fun v => Value.tuple #[v, str x.2.2.2]) (ords_len hx.1), by rw [e]; exact hx.1, by rw [e]; exact List.sublist_append_left _ _⟩
              · have hd1 : itoa (smV x.2.2.1 ((x.2.2.2.drop (i + 1)).take (k - (i + 1)))) = x.2.2.2.take i := Decidable.not_not.1 hc4
                refine TC.skip ?_
                refine TQ.thenC ?_
                refine TC.seq ?_
                refine TC.region ?_
                refine TL.pure (PV.move rfl) rfl (by decide) ?_
                refine TL.pure (PV.move rfl) rfl (by decide) ?_
                refine TL.call rfl Tb.gofn_47 (fun a w hs => rSum_ok w x.2.2.1 (by omega) ((x.2.2.2.drop (i + 1)).take (k - (i + 1))) hsl) rfl (by decide) (fun _ _ => ?_)
                refine TL.pure (PV.assign rfl) rfl (by decide) ?_
                refine TL.nil ?_
                refine TQ.thenC ?_
                refine TC.seq ?_
                refine TC.region ?_
                refine TL.pure (PV.move rfl) rfl (by decide) ?_
                refine TL.pure (PV.move rfl) rfl (by decide) ?_
                refine TL.buildSlice (cs := #[str ((x.2.2.2.drop (i + 1)).take (k - (i + 1)))]) rfl Tb.sl_43 Tb.zi_9 (by decide) (fill_s ((x.2.2.2.drop (i + 1)).take (k - (i + 1)))) (by decide) rfl (by decide) (fun bI hbI => ?_)
                refine TL.appendRec (R := stR) (h0 := x.1) (ys := x.2.1) (r := ((x.2.2.2.drop (i + 1)).take (k - (i + 1)))) Tb.sl_43 Tb.zi_9 rfl rfl rfl (by repeat (first | exact List.Mem.head _ | refine List.Mem.tail _ ?_ | refine List.mem_append_right _ ?_)) hx.1 (by repeat (first | exact TakeH.here _ _ _ _ | apply TakeH.tail | apply TakeH.app)) (by omega) (by omega) rfl (by decide) (fun h9 ho9 => ?_)
                refine TL.pure (PV.assign rfl) rfl (by decide) ?_
                refine TL.nil ?_
                refine TQ.thenC ?_
                refine TC.region ?_
                refine TL.pure (PV.move rfl) rfl (by decide) ?_
                refine TL.pure (PV.move rfl) rfl (by decide) ?_
                refine TL.pure (PV.add rfl rfl (by omega)) rfl (by decide) ?_
                refine TL.pure (PV.slSf (l := k + 1) rfl rfl Tb.str_9 rfl (by omega)) rfl (by decide) ?_
                refine TL.pure (PV.assign rfl) rfl (by decide) ?_
                refine TL.nil ?_
                refine TQ.blkN ?_
                refine TQ.thenN ?_
                refine TQ.backK (h9, x.2.1 ++ [((x.2.2.2.drop (i + 1)).take (k - (i + 1)))], smV x.2.2.1 ((x.2.2.2.drop (i + 1)).take (k - (i + 1))), x.2.2.2.drop (k + 1)) (by repeat (first | exact True.intro | refine And.intro rfl ?_)) (by repeat (first | exact True.intro | refine And.intro rfl ?_)) (List.Sublist.append (List.Sublist.refl _) (List.nil_sublist _)) ⟨ho9, hx.2.next (by omega) (pg_n5 hA (by omega) hB (by omega) hr1 hd1)⟩ (by simp only [List.length_append, List.length_cons, List.length_nil]; omega)
  · refine TC.exit ?_
    refine TQ.thenE ?_
    refine TQ.thenE ?_
    refine TQ.blkS ?_
    refine TQ.thenC ?_
    refine TC.seq ?_
    refine TC.region ?_
    refine TL.pure (PV.move rfl) rfl (by decide) ?_
    refine TL.pure (PV.move rfl) rfl (by decide) ?_
    refine TL.pure (PV.assign rfl) rfl (by decide) ?_
    refine TL.pure (PV.assign rfl) rfl (by decide) ?_
    refine TL.nil ?_
    refine TQ.thenC ?_
    refine TC.ret ?_
    refine TQ.retE2 rfl rfl rfl ?_
    have e := hx.2.full (by omega)
    exact ⟨x.1, by rw [e]; exact congrArg (fun v => Value.tuple #[v, str x.2.2.2]) (ords_len hx.1), by rw [e]; exact hx.1, by rw [e]; exact List.sublist_append_left _ _⟩

end Go.Proofs.YtbnjmkidbfmomaaGreatDoor

/- Merging books: contracts. -/
namespace Go.Proofs.YtbnjmkidbfmomaaGreatDoor
open Go.Sx Go.RowKit Go.Bt Go.Lib Go.Sand

theorem ords_now {h : HD} {L : List (List UInt8)} (ho : goR stR h L) {k : Nat} (hk : k < L.length) : ∃ q, gp h = some q ∧ ∀ (w0 w : World) (Z : Heap), (∀ y ∈ gbR stR 9 h L, y ∈ Z) → New w0 w Z → w.cell? (q.add (k * 1)) = some (str (L.getD k [])) := by
  obtain _ | ⟨b, cap, sp⟩ := h
  · have h0 : L.length = 0 := ho.2
    omega
  · refine ⟨⟨b, 0, none⟩, rfl, fun w0 w Z hm hn => ?_⟩
    obtain ⟨q, h1, h2⟩ := ords_at hn hm ho k hk
    injection h1 with h1
    subst h1
    exact h2
section
variable {P : Program} {n : Nat} {w0 : World} {E : Env} {G : Heap} {d : Option Nat} {ty : TypeId} {pos : String} {aft : Array Edge} {g : Option (Nat × Bool)}
theorem PV.loadO {x : Operand} {q : Addr} {t : Nat} {h : HD} {L : List (List UInt8)} {k : Nat} (hx : evo E x = some (.pointer (some (q.add (k * 1))))) (ht : oneB P t = true) (hm : ∀ y ∈ gbR stR 9 h L, y ∈ G)
    (qv : ∀ (w0 w : World) (Z : Heap), (∀ y ∈ gbR stR 9 h L, y ∈ Z) → New w0 w Z → w.cell? (q.add (k * 1)) = some (str (L.getD k []))) : PV P n w0 E G ⟨d, .load t x, ty, pos, aft, g⟩ (str (L.getD k [])) :=
  PV.loadN hx ht (List.Sublist.refl _) fun w hn => qv _ _ _ hm hn
end
/-- What the merging of two books is. -/
def MrP (A B : List (List UInt8) × List UInt8) (t u : List UInt8) (y : List UInt8 × Int × Int) : Prop :=
  ((A.2 ≠ [] ∨ B.2 ≠ []) ∧ y = ([], 0, 12)) ∨ (¬ (A.2 ≠ [] ∨ B.2 ≠ []) ∧ ((∃ k : Nat, k < min A.1.length B.1.length ∧ (∀ j, j < k → A.1.getD j [] = B.1.getD j []) ∧ A.1.getD k [] ≠ B.1.getD k [] ∧ y = ([], (k : Int), 7)) ∨
    ((∀ j, j < min A.1.length B.1.length → A.1.getD j [] = B.1.getD j []) ∧ y = if A.1.length < B.1.length then (u, (B.1.length : Int), 0) else (t, (A.1.length : Int), 0))))
theorem MrP.unique {A B : List (List UInt8) × List UInt8} {t u : List UInt8} {y z : List UInt8 × Int × Int} (h : MrP A B t u y) (h' : MrP A B t u z) : y = z := by
  rcases h with ⟨a, e⟩ | ⟨a, h⟩
  · rcases h' with ⟨b, e'⟩ | ⟨b, h'⟩
    · rw [e, e']
    · exact absurd a b
  rcases h' with ⟨b, e'⟩ | ⟨b, h'⟩
  · exact absurd b a
  rcases h with ⟨k, h1, h2, h3, e⟩ | ⟨h1, e⟩
  · rcases h' with ⟨k', h1', h2', h3', e'⟩ | ⟨h1', e'⟩
    · have : k = k' := by
        rcases Nat.lt_trichotomy k k' with hlt | rfl | hlt
        · exact absurd (h2' k hlt) h3
        · rfl
        · exact absurd (h2 k' hlt) h3'
      rw [e, e', this]
    · exact absurd (h1' k h1) h3
  · rcases h' with ⟨k', h1', h2', h3', e'⟩ | ⟨h1', e'⟩
    · exact absurd (h1 k' h1') h3'
    · rw [e, e']
section
variable {A B : List (List UInt8) × List UInt8} {t u : List UInt8}
theorem mr_12 (h : A.2 ≠ [] ∨ B.2 ≠ []) : MrP A B t u ([], 0, 12) := .inl ⟨h, rfl⟩
theorem mr_7 {k : Nat} (h : ¬ (A.2 ≠ [] ∨ B.2 ≠ [])) (h1 : k < A.1.length) (h2 : k < B.1.length) (h3 : ∀ j, j < k → A.1.getD j [] = B.1.getD j []) (h4 : A.1.getD k [] ≠ B.1.getD k []) : MrP A B t u ([], (k : Int), 7) :=
  .inr ⟨h, .inl ⟨k, by omega, h3, h4, rfl⟩⟩
theorem mr_u {k : Nat} (h : ¬ (A.2 ≠ [] ∨ B.2 ≠ [])) (h1 : A.1.length ≤ k ∨ B.1.length ≤ k) (h3 : ∀ j, j < k → A.1.getD j [] = B.1.getD j []) (h4 : A.1.length < B.1.length) : MrP A B t u (u, (B.1.length : Int), 0) :=
  .inr ⟨h, .inr ⟨fun j hj => h3 j (by omega), by rw [if_pos h4]⟩⟩
theorem mr_t {k : Nat} (h : ¬ (A.2 ≠ [] ∨ B.2 ≠ [])) (h1 : A.1.length ≤ k ∨ B.1.length ≤ k) (h3 : ∀ j, j < k → A.1.getD j [] = B.1.getD j []) (h4 : ¬ A.1.length < B.1.length) : MrP A B t u (t, (A.1.length : Int), 0) :=
  .inr ⟨h, .inr ⟨fun j hj => h3 j (by omega), by rw [if_neg h4]⟩⟩
end

set_option maxRecDepth 100000 in
set_option maxHeartbeats 1000000 in
theorem Merge_ok (w0 : World) (hW : WAt w0) (t u : List UInt8) (ht : t.length ≤ 1000000) (hu : u.length ≤ 1000000) :
    Calls Tryz.prog 52 #[str t, str u] w0 (Post (X := List UInt8 × Int × Int) (fun y => .tuple #[str y.1, .int .i64 y.2.1, .int .i64 y.2.2]) (fun y => MrP (readL t) (readL u) t u y) (fun _ => []) w0) := by
  refine calls Tryz.func52 rfl (n := 60) rfl (by simp) ?_
  refine TC.seq ?_
  refine TC.region ?_
  refine TL.pure (PV.assign rfl) rfl (by decide) ?_
  refine TL.pure (PV.assign rfl) rfl (by decide) ?_
  refine TL.pure (PV.assign rfl) rfl (by decide) ?_
  refine TL.nil ?_
  refine TQ.thenC ?_
  refine TC.seq ?_
  refine TC.region ?_
  refine TL.pure (PV.move rfl) rfl (by decide) ?_
  refine TL.call rfl Tb.gofn_43 (fun a w hs => Read_ok w (hW.new hs.new) t ht) rfl (by decide) (fun hA hhA => ?_)
  refine TL.pure (PV.move rfl) rfl (by decide) ?_
  refine TL.pure (PV.extract rfl rfl) rfl (by decide) ?_
  refine TL.pure (PV.extract rfl rfl) rfl (by decide) ?_
  refine TL.pure (PV.assign rfl) rfl (by decide) ?_
  refine TL.pure (PV.assign rfl) rfl (by decide) ?_
  refine TL.nil ?_
  refine TQ.thenC ?_
  refine TC.seq ?_
  refine TC.region ?_
  refine TL.pure (PV.move rfl) rfl (by decide) ?_
  refine TL.call rfl Tb.gofn_43 (fun a w hs => Read_ok w (hW.new hs.new) u hu) rfl (by decide) (fun hB hhB => ?_)
  refine TL.pure (PV.move rfl) rfl (by decide) ?_
  refine TL.pure (PV.extract rfl rfl) rfl (by decide) ?_
  refine TL.pure (PV.extract rfl rfl) rfl (by decide) ?_
  refine TL.pure (PV.assign rfl) rfl (by decide) ?_
  refine TL.pure (PV.assign rfl) rfl (by decide) ?_
  refine TL.nil ?_
  refine TQ.thenC ?_
  refine TC.seq ?_
  refine TC.seq ?_
  have hAl := (rd_sound 100 0 t).2.1
  have hBl := (rd_sound 100 0 u).2.1
  have eA : (readL t).1.length ≤ 100 := hAl
  have eB : (readL u).1.length ≤ 100 := hBl
  refine TC.region ?_
  refine TL.pure (PV.move rfl) rfl (by decide) ?_
  refine TL.pure (PV.neqS (M := []) rfl rfl) rfl (by decide) ?_
  refine TL.pure (PV.move rfl) rfl (by decide) ?_
  first | refine TL.splitD 25 rfl (fun n1 => ?_) (fun n1 => ?_) | refine TL.split 25 rfl (fun n1 => ?_) (fun n1 => ?_)
  · refine TL.skip rfl (fun k hk => by cases hk; decide) ?_
    refine TL.skip rfl (fun k hk => by cases hk; decide) ?_
    refine TL.pure (PV.pickT rfl rfl) rfl (by decide) ?_
    refine TL.nil ?_
    refine TQ.thenC ?_
    refine TC.condT rfl ?_
    refine TC.seq ?_
    refine TC.region ?_
    refine TL.pure (PV.assign rfl) rfl (by decide) ?_
    refine TL.pure (PV.assign rfl) rfl (by decide) ?_
    refine TL.pure (PV.assign rfl) rfl (by decide) ?_
    refine TL.nil ?_
    refine TQ.thenC ?_
    refine TC.ret ?_
    refine TQ.thenR ?_
    refine TQ.retE3 rfl rfl rfl rfl ?_
    exact ⟨([], 0, 12), rfl, mr_12 (by first | exact .inl n1 | exact .inr n2 | (simp_all)), List.nil_sublist _⟩
  · refine TL.pure (PV.move rfl) rfl (by decide) ?_
    refine TL.pure (PV.neqS (M := []) rfl rfl) rfl (by decide) ?_
    refine TL.pure (PV.pickF rfl rfl) rfl (by decide) ?_
    refine TL.nil ?_
    refine TQ.thenC ?_
    first | refine TC.condD rfl (fun h1 => ?_) (fun h1 => ?_) | refine TC.cond rfl (fun h1 => ?_) (fun h1 => ?_)
    · refine TC.seq ?_
      refine TC.region ?_
      refine TL.pure (PV.assign rfl) rfl (by decide) ?_
      refine TL.pure (PV.assign rfl) rfl (by decide) ?_
      refine TL.pure (PV.assign rfl) rfl (by decide) ?_
      refine TL.nil ?_
      refine TQ.thenC ?_
      refine TC.ret ?_
      refine TQ.thenR ?_
      refine TQ.retE3 rfl rfl rfl rfl ?_
      exact ⟨([], 0, 12), rfl, mr_12 (by first | exact .inr n2 | exact .inl n1 | (simp_all)), List.nil_sublist _⟩
    · refine TC.skip ?_
      refine TQ.thenC ?_
      refine TC.seq ?_
      have hno : ¬ ((readL t).2 ≠ [] ∨ (readL u).2 ≠ []) := by intro h9; rcases h9 with h9 | h9 <;> simp_all
      refine TC.region ?_
      refine TL.pure (PV.move rfl) rfl (by decide) ?_
      refine TL.pure (PV.len rfl Tb.sl_43) rfl (by decide) ?_
      refine TL.pure (PV.move rfl) rfl (by decide) ?_
      refine TL.pure (PV.len rfl Tb.sl_43) rfl (by decide) ?_
      refine TL.pure (PV.min rfl rfl Tb.int_3) rfl (by decide) ?_
      refine TL.pure (PV.assign rfl) rfl (by decide) ?_
      refine TL.nil ?_
      refine TQ.thenC ?_
      refine TC.seq ?_
      refine TC.seq ?_
      refine TC.region ?_
      refine TL.pure (PV.move rfl) rfl (by decide) ?_
      refine TL.pure (PV.move rfl) rfl (by decide) ?_
      refine TL.nil ?_
      refine TQ.thenC ?_
      refine TC.block ?_
      -- live and written in the loop, not told: [4, 5, 6]
      refine TC.loopK [0, 1, 7, 9, 34] (X := Nat) (fun k => k ≤ min (readL t).1.length (readL u).1.length ∧ ∀ j, j < k → (readL t).1.getD j [] = (readL u).1.getD j []) (fun k => [(35, .int .i64 (k : Nat))]) (fun k => (gbR stR 9 hB (readL u).1 ++ (gbR stR 9 hA (readL t).1 ++ []))) (fun k => min (readL t).1.length (readL u).1.length - k) 0 ⟨Nat.zero_le _, fun j hj => absurd hj (Nat.not_lt_zero _)⟩ (by repeat (first | exact True.intro | refine And.intro rfl ?_)) (List.Sublist.refl _) ?_
      intro k hk
      have hk1 := hk.1
      refine TC.seq ?_
      refine TC.region ?_
      refine TL.pure (PV.lss rfl rfl) rfl (by decide) ?_
      refine TL.nil ?_
      refine TQ.thenC ?_
      refine TC.seq ?_
      first | refine TC.condD rfl (fun hlt => ?_) (fun hlt => ?_) | refine TC.cond rfl (fun hlt => ?_) (fun hlt => ?_)
      · refine TC.skip ?_
        refine TQ.thenC ?_
        refine TC.seq ?_
        refine TC.block ?_
        refine TC.seq ?_
        obtain ⟨q1, q1p, q1v⟩ := ords_now hhA (k := k) (by omega)
        obtain ⟨q2, q2p, q2v⟩ := ords_now hhB (k := k) (by omega)
        refine TC.region ?_
        refine TL.pure (PV.move rfl) rfl (by decide) ?_
        refine TL.pure (PV.assign rfl) rfl (by decide) ?_
        refine TL.nil ?_
        refine TQ.thenC ?_
        refine TC.seq ?_
        refine TC.mixV [true, true, true, true, true, true, true, true, true] _ 9 Tb.mixed rfl (by kernel_rfl) (by kernel_rfl) (by kernel_rfl) (by kernel_rfl) (List.Sublist.refl _) ?_
        refine TV.virt 0 rfl rfl (by decide) rfl (by kernel_rfl) (SOK.pure (PV.move rfl) rfl) ?_
        refine TV.virt 1 rfl rfl (by decide) rfl (by kernel_rfl) (SOK.pure (PV.move rfl) rfl) ?_
        refine TV.virt 2 rfl rfl (by decide) rfl (by kernel_rfl) (SOK.pure (PV.indexA rfl q1p rfl Tb.elm_43 rfl (by omega)) rfl) ?_
        refine TV.virt 3 rfl rfl (by decide) rfl (by kernel_rfl) (SOK.pure (PV.loadO (h := hA) (L := (readL t).1) rfl Tb.one_9 (by intro y9 hy9; repeat (first | exact hy9 | exact List.mem_append_left _ hy9 | refine List.mem_append_right _ ?_ | refine List.Mem.tail _ ?_)) q1v) rfl) ?_
        refine TV.virt 4 rfl rfl (by decide) rfl (by kernel_rfl) (SOK.pure (PV.move rfl) rfl) ?_
        refine TV.virt 5 rfl rfl (by decide) rfl (by kernel_rfl) (SOK.pure (PV.move rfl) rfl) ?_
        refine TV.virt 6 rfl rfl (by decide) rfl (by kernel_rfl) (SOK.pure (PV.indexA rfl q2p rfl Tb.elm_43 rfl (by omega)) rfl) ?_
        refine TV.virt 7 rfl rfl (by decide) rfl (by kernel_rfl) (SOK.pure (PV.loadO (h := hB) (L := (readL u).1) rfl Tb.one_9 (by intro y9 hy9; repeat (first | exact hy9 | exact List.mem_append_left _ hy9 | refine List.mem_append_right _ ?_ | refine List.Mem.tail _ ?_)) q2v) rfl) ?_
        refine TV.virt 8 rfl rfl (by decide) rfl (by kernel_rfl) (SOK.pure (PV.neqS rfl rfl) rfl) ?_
        refine TV.done (by kernel_rfl) ?_
        refine TQ.thenC ?_
        first | refine TC.condD rfl (fun hne => ?_) (fun hne => ?_) | refine TC.cond rfl (fun hne => ?_) (fun hne => ?_)
        · refine TC.seq ?_
          refine TC.region ?_
          refine TL.pure (PV.move rfl) rfl (by decide) ?_
          refine TL.pure (PV.assign rfl) rfl (by decide) ?_
          refine TL.pure (PV.assign rfl) rfl (by decide) ?_
          refine TL.pure (PV.assign rfl) rfl (by decide) ?_
          refine TL.nil ?_
          refine TQ.thenC ?_
          refine TC.ret ?_
          refine TQ.blkR ?_
          refine TQ.thenR ?_
          refine TQ.thenR ?_
          refine TQ.blkR ?_
          refine TQ.thenR ?_
          refine TQ.retE3 rfl rfl rfl rfl ?_
          exact ⟨([], (k : Int), 7), rfl, mr_7 hno (by omega) (by omega) hk.2 hne, List.nil_sublist _⟩
        · refine TC.skip ?_
          refine TQ.blkN ?_
          refine TQ.thenC ?_
          refine TC.region ?_
          refine TL.pure (PV.add rfl rfl (by omega)) rfl (by decide) ?_
          refine TL.pure (PV.move rfl) rfl (by decide) ?_
          refine TL.nil ?_
          refine TQ.thenN ?_
          refine TQ.backK (k + 1) (by repeat (first | exact True.intro | refine And.intro rfl ?_)) (by repeat (first | exact True.intro | refine And.intro rfl ?_)) (List.Sublist.refl _) ⟨by omega, fun j hj => if e : j < k then hk.2 j e else (show k = j by omega) ▸ Decidable.not_not.1 hne⟩ (by omega)
      · refine TC.exit ?_
        refine TQ.thenE ?_
        refine TQ.thenE ?_
        refine TQ.blkS ?_
        refine TQ.thenC ?_
        refine TC.seq ?_
        refine TC.seq ?_
        refine TC.region ?_
        refine TL.pure (PV.move rfl) rfl (by decide) ?_
        refine TL.pure (PV.len rfl Tb.sl_43) rfl (by decide) ?_
        refine TL.pure (PV.move rfl) rfl (by decide) ?_
        refine TL.pure (PV.len rfl Tb.sl_43) rfl (by decide) ?_
        refine TL.pure (PV.lss rfl rfl) rfl (by decide) ?_
        refine TL.nil ?_
        refine TQ.thenC ?_
        first | refine TC.condD rfl (fun hsh => ?_) (fun hsh => ?_) | refine TC.cond rfl (fun hsh => ?_) (fun hsh => ?_)
        · refine TC.seq ?_
          refine TC.region ?_
          refine TL.pure (PV.move rfl) rfl (by decide) ?_
          refine TL.pure (PV.move rfl) rfl (by decide) ?_
          refine TL.pure (PV.len rfl Tb.sl_43) rfl (by decide) ?_
          refine TL.pure (PV.assign rfl) rfl (by decide) ?_
          refine TL.pure (PV.assign rfl) rfl (by decide) ?_
          refine TL.pure (PV.assign rfl) rfl (by decide) ?_
          refine TL.nil ?_
          refine TQ.thenC ?_
          refine TC.ret ?_
          refine TQ.thenR ?_
          refine TQ.retE3 rfl rfl rfl rfl ?_
          exact ⟨(u, _, 0), rfl, mr_u hno (k := k) (by omega) hk.2 (by omega), List.nil_sublist _⟩
        · refine TC.skip ?_
          refine TQ.thenC ?_
          refine TC.seq ?_
          refine TC.region ?_
          refine TL.pure (PV.move rfl) rfl (by decide) ?_
          refine TL.pure (PV.move rfl) rfl (by decide) ?_
          refine TL.pure (PV.len rfl Tb.sl_43) rfl (by decide) ?_
          refine TL.pure (PV.assign rfl) rfl (by decide) ?_
          refine TL.pure (PV.assign rfl) rfl (by decide) ?_
          refine TL.pure (PV.assign rfl) rfl (by decide) ?_
          refine TL.nil ?_
          refine TQ.thenC ?_
          refine TC.ret ?_
          refine TQ.retE3 rfl rfl rfl rfl ?_
          exact ⟨(t, _, 0), rfl, mr_t hno (k := k) (by omega) hk.2 (by omega), List.nil_sublist _⟩

set_option maxRecDepth 100000 in
set_option maxHeartbeats 1000000 in
theorem rMerge_ok (w0 : World) (hW : WAt w0) (t u : List UInt8) (ht : t.length ≤ 1000000) (hu : u.length ≤ 1000000) :
    Calls Tryz.prog 53 #[str t, str u] w0 (Post (X := List UInt8 × Int × Int) (fun y => .tuple #[str y.1, .int .i64 y.2.1, .int .i64 y.2.2]) (fun y => MrP (readL t) (readL u) t u y) (fun _ => []) w0) := by
  refine calls Tryz.func53 rfl (n := 61) rfl (by simp) ?_
  refine TC.seq ?_
  refine TC.region ?_
  refine TL.pure (PV.assign rfl) rfl (by decide) ?_
  refine TL.pure (PV.assign rfl) rfl (by decide) ?_
  refine TL.pure (PV.assign rfl) rfl (by decide) ?_
  refine TL.nil ?_
  refine TQ.thenC ?_
  refine TC.seq ?_
  refine TC.region ?_
  refine TL.pure (PV.move rfl) rfl (by decide) ?_
  refine TL.call rfl Tb.gofn_44 (fun a w hs => rRead_ok w (hW.new hs.new) t ht) rfl (by decide) (fun hA hhA => ?_)
  refine TL.pure (PV.move rfl) rfl (by decide) ?_
  refine TL.pure (PV.extract rfl rfl) rfl (by decide) ?_
  refine TL.pure (PV.extract rfl rfl) rfl (by decide) ?_
  refine TL.pure (PV.assign rfl) rfl (by decide) ?_
  refine TL.pure (PV.assign rfl) rfl (by decide) ?_
  refine TL.nil ?_
  refine TQ.thenC ?_
  refine TC.seq ?_
  refine TC.region ?_
  refine TL.pure (PV.move rfl) rfl (by decide) ?_
  refine TL.call rfl Tb.gofn_44 (fun a w hs => rRead_ok w (hW.new hs.new) u hu) rfl (by decide) (fun hB hhB => ?_)
  refine TL.pure (PV.move rfl) rfl (by decide) ?_
  refine TL.pure (PV.extract rfl rfl) rfl (by decide) ?_
  refine TL.pure (PV.extract rfl rfl) rfl (by decide) ?_
  refine TL.pure (PV.assign rfl) rfl (by decide) ?_
  refine TL.pure (PV.assign rfl) rfl (by decide) ?_
  refine TL.nil ?_
  refine TQ.thenC ?_
  refine TC.seq ?_
  refine TC.seq ?_
  have hAl := (rd_sound 100 0 t).2.1
  have hBl := (rd_sound 100 0 u).2.1
  have eA : (readL t).1.length ≤ 100 := hAl
  have eB : (readL u).1.length ≤ 100 := hBl
  refine TC.region ?_
  refine TL.pure (PV.move rfl) rfl (by decide) ?_
  refine TL.pure (PV.neqS (M := []) rfl rfl) rfl (by decide) ?_
  refine TL.pure (PV.move rfl) rfl (by decide) ?_
  first | refine TL.splitD 24 rfl (fun n1 => ?_) (fun n1 => ?_) | refine TL.split 24 rfl (fun n1 => ?_) (fun n1 => ?_)
  · refine TL.skip rfl (fun k hk => by cases hk; decide) ?_
    refine TL.skip rfl (fun k hk => by cases hk; decide) ?_
    refine TL.pure (PV.pickT rfl rfl) rfl (by decide) ?_
    refine TL.nil ?_
    refine TQ.thenC ?_
    refine TC.condT rfl ?_
    refine TC.seq ?_
    refine TC.region ?_
    refine TL.pure (PV.assign rfl) rfl (by decide) ?_
    refine TL.pure (PV.assign rfl) rfl (by decide) ?_
    refine TL.pure (PV.assign rfl) rfl (by decide) ?_
    refine TL.nil ?_
    refine TQ.thenC ?_
    refine TC.ret ?_
    refine TQ.thenR ?_
    refine TQ.retE3 rfl rfl rfl rfl ?_
    exact ⟨([], 0, 12), rfl, mr_12 (by first | exact .inl n1 | exact .inr n2 | (simp_all)), List.nil_sublist _⟩
  · refine TL.pure (PV.move rfl) rfl (by decide) ?_
    refine TL.pure (PV.neqS (M := []) rfl rfl) rfl (by decide) ?_
    refine TL.pure (PV.pickF rfl rfl) rfl (by decide) ?_
    refine TL.nil ?_
    refine TQ.thenC ?_
    first | refine TC.condD rfl (fun n2 => ?_) (fun n2 => ?_) | refine TC.cond rfl (fun n2 => ?_) (fun n2 => ?_)
    · refine TC.seq ?_
      refine TC.region ?_
      refine TL.pure (PV.assign rfl) rfl (by decide) ?_
      refine TL.pure (PV.assign rfl) rfl (by decide) ?_
      refine TL.pure (PV.assign rfl) rfl (by decide) ?_
      refine TL.nil ?_
      refine TQ.thenC ?_
      refine TC.ret ?_
      refine TQ.thenR ?_
      refine TQ.retE3 rfl rfl rfl rfl ?_
      exact ⟨([], 0, 12), rfl, mr_12 (by first | exact .inr n2 | exact .inl n1 | (simp_all)), List.nil_sublist _⟩
    · refine TC.skip ?_
      refine TQ.thenC ?_
      refine TC.seq ?_
      refine TC.seq ?_
      have hno : ¬ ((readL t).2 ≠ [] ∨ (readL u).2 ≠ []) := by intro h9; rcases h9 with h9 | h9 <;> simp_all
      refine TC.region ?_
      refine TL.pure (PV.assign rfl) rfl (by decide) ?_
      refine TL.nil ?_
      refine TQ.thenC ?_
      refine TC.block ?_
      -- live and written in the loop, not told: [4, 5, 6]
      refine TC.loopK [0, 1, 7, 9] (X := Nat) (fun k => k ≤ (readL t).1.length ∧ ∀ j, j < k → (readL t).1.getD j [] = (readL u).1.getD j []) (fun k => [(11, .int .i64 (k : Nat))]) (fun k => (gbR stR 9 hB (readL u).1 ++ (gbR stR 9 hA (readL t).1 ++ []))) (fun k => (readL t).1.length - k) 0 ⟨Nat.zero_le _, fun j hj => absurd hj (Nat.not_lt_zero _)⟩ (by repeat (first | exact True.intro | refine And.intro rfl ?_)) (List.Sublist.refl _) ?_
      intro k hk
      have hk1 := hk.1
      refine TC.seq ?_
      refine TC.seq ?_
      refine TC.region ?_
      refine TL.pure (PV.move rfl) rfl (by decide) ?_
      refine TL.pure (PV.move rfl) rfl (by decide) ?_
      refine TL.pure (PV.len rfl Tb.sl_43) rfl (by decide) ?_
      refine TL.pure (PV.lss rfl rfl) rfl (by decide) ?_
      refine TL.pure (PV.move rfl) rfl (by decide) ?_
      first | refine TL.splitD 32 rfl (fun hl1 => ?_) (fun hl1 => ?_) | refine TL.split 32 rfl (fun hl1 => ?_) (fun hl1 => ?_)
      · refine TL.pure (PV.move rfl) rfl (by decide) ?_
        refine TL.pure (PV.move rfl) rfl (by decide) ?_
        refine TL.pure (PV.len rfl Tb.sl_43) rfl (by decide) ?_
        refine TL.pure (PV.lss rfl rfl) rfl (by decide) ?_
        refine TL.pure (PV.pickT rfl rfl) rfl (by decide) ?_
        refine TL.nil ?_
        refine TQ.thenC ?_
        first | refine TC.condD rfl (fun hl2 => ?_) (fun hl2 => ?_) | refine TC.cond rfl (fun hl2 => ?_) (fun hl2 => ?_)
        · refine TC.skip ?_
          refine TQ.thenC ?_
          refine TC.seq ?_
          refine TC.block ?_
          refine TC.seq ?_
          obtain ⟨q1, q1p, q1v⟩ := ords_now hhA (k := k) (by omega)
          obtain ⟨q2, q2p, q2v⟩ := ords_now hhB (k := k) (by omega)
          refine TC.mixV [true, true, true, true, true, true, true, true, true] _ 9 Tb.mixed rfl (by kernel_rfl) (by kernel_rfl) (by kernel_rfl) (by kernel_rfl) (List.Sublist.refl _) ?_
          refine TV.virt 0 rfl rfl (by decide) rfl (by kernel_rfl) (SOK.pure (PV.move rfl) rfl) ?_
          refine TV.virt 1 rfl rfl (by decide) rfl (by kernel_rfl) (SOK.pure (PV.move rfl) rfl) ?_
          refine TV.virt 2 rfl rfl (by decide) rfl (by kernel_rfl) (SOK.pure (PV.indexA rfl q1p rfl Tb.elm_43 rfl (by omega)) rfl) ?_
          refine TV.virt 3 rfl rfl (by decide) rfl (by kernel_rfl) (SOK.pure (PV.loadO (h := hA) (L := (readL t).1) rfl Tb.one_9 (by intro y9 hy9; repeat (first | exact hy9 | exact List.mem_append_left _ hy9 | refine List.mem_append_right _ ?_ | refine List.Mem.tail _ ?_)) q1v) rfl) ?_
          refine TV.virt 4 rfl rfl (by decide) rfl (by kernel_rfl) (SOK.pure (PV.move rfl) rfl) ?_
          refine TV.virt 5 rfl rfl (by decide) rfl (by kernel_rfl) (SOK.pure (PV.move rfl) rfl) ?_
          refine TV.virt 6 rfl rfl (by decide) rfl (by kernel_rfl) (SOK.pure (PV.indexA rfl q2p rfl Tb.elm_43 rfl (by omega)) rfl) ?_
          refine TV.virt 7 rfl rfl (by decide) rfl (by kernel_rfl) (SOK.pure (PV.loadO (h := hB) (L := (readL u).1) rfl Tb.one_9 (by intro y9 hy9; repeat (first | exact hy9 | exact List.mem_append_left _ hy9 | refine List.mem_append_right _ ?_ | refine List.Mem.tail _ ?_)) q2v) rfl) ?_
          refine TV.virt 8 rfl rfl (by decide) rfl (by kernel_rfl) (SOK.pure (PV.neqS rfl rfl) rfl) ?_
          refine TV.done (by kernel_rfl) ?_
          refine TQ.thenC ?_
          first | refine TC.condD rfl (fun hne => ?_) (fun hne => ?_) | refine TC.cond rfl (fun hne => ?_) (fun hne => ?_)
          · refine TC.seq ?_
            refine TC.region ?_
            refine TL.pure (PV.move rfl) rfl (by decide) ?_
            refine TL.pure (PV.assign rfl) rfl (by decide) ?_
            refine TL.pure (PV.assign rfl) rfl (by decide) ?_
            refine TL.pure (PV.assign rfl) rfl (by decide) ?_
            refine TL.nil ?_
            refine TQ.thenC ?_
            refine TC.ret ?_
            refine TQ.blkR ?_
            refine TQ.thenR ?_
            refine TQ.thenR ?_
            refine TQ.blkR ?_
            refine TQ.thenR ?_
            refine TQ.retE3 rfl rfl rfl rfl ?_
            exact ⟨([], (k : Int), 7), rfl, mr_7 hno (by omega) (by omega) hk.2 hne, List.nil_sublist _⟩
          · refine TC.skip ?_
            refine TQ.blkN ?_
            refine TQ.thenC ?_
            refine TC.region ?_
            refine TL.pure (PV.move rfl) rfl (by decide) ?_
            refine TL.pure (PV.add rfl rfl (by omega)) rfl (by decide) ?_
            refine TL.pure (PV.assign rfl) rfl (by decide) ?_
            refine TL.nil ?_
            refine TQ.thenN ?_
            refine TQ.backK (k + 1) (by repeat (first | exact True.intro | refine And.intro rfl ?_)) (by repeat (first | exact True.intro | refine And.intro rfl ?_)) (List.Sublist.refl _) ⟨by omega, fun j hj => if e : j < k then hk.2 j e else (show k = j by omega) ▸ Decidable.not_not.1 hne⟩ (by omega)
        · refine TC.exit ?_
          refine TQ.thenE ?_
          refine TQ.thenE ?_
          refine TQ.blkS ?_
          refine TQ.thenC ?_
          refine TC.seq ?_
          refine TC.seq ?_
          refine TC.region ?_
          refine TL.pure (PV.move rfl) rfl (by decide) ?_
          refine TL.pure (PV.len rfl Tb.sl_43) rfl (by decide) ?_
          refine TL.pure (PV.move rfl) rfl (by decide) ?_
          refine TL.pure (PV.len rfl Tb.sl_43) rfl (by decide) ?_
          refine TL.pure (PV.gtr rfl rfl) rfl (by decide) ?_
          refine TL.nil ?_
          refine TQ.thenC ?_
          first | refine TC.condD rfl (fun hsh => ?_) (fun hsh => ?_) | refine TC.cond rfl (fun hsh => ?_) (fun hsh => ?_)
          · refine TC.seq ?_
            refine TC.region ?_
            refine TL.pure (PV.move rfl) rfl (by decide) ?_
            refine TL.pure (PV.move rfl) rfl (by decide) ?_
            refine TL.pure (PV.len rfl Tb.sl_43) rfl (by decide) ?_
            refine TL.pure (PV.assign rfl) rfl (by decide) ?_
            refine TL.pure (PV.assign rfl) rfl (by decide) ?_
            refine TL.pure (PV.assign rfl) rfl (by decide) ?_
            refine TL.nil ?_
            refine TQ.thenC ?_
            refine TC.ret ?_
            refine TQ.thenR ?_
            refine TQ.retE3 rfl rfl rfl rfl ?_
            exact ⟨(u, _, 0), rfl, mr_u hno (k := k) (by omega) hk.2 (by omega), List.nil_sublist _⟩
          · refine TC.skip ?_
            refine TQ.thenC ?_
            refine TC.seq ?_
            refine TC.region ?_
            refine TL.pure (PV.move rfl) rfl (by decide) ?_
            refine TL.pure (PV.move rfl) rfl (by decide) ?_
            refine TL.pure (PV.len rfl Tb.sl_43) rfl (by decide) ?_
            refine TL.pure (PV.assign rfl) rfl (by decide) ?_
            refine TL.pure (PV.assign rfl) rfl (by decide) ?_
            refine TL.pure (PV.assign rfl) rfl (by decide) ?_
            refine TL.nil ?_
            refine TQ.thenC ?_
            refine TC.ret ?_
            refine TQ.retE3 rfl rfl rfl rfl ?_
            exact ⟨(t, _, 0), rfl, mr_t hno (k := k) (by omega) hk.2 (by omega), List.nil_sublist _⟩
      · refine TL.skip rfl (fun k hk => by cases hk; decide) ?_
        refine TL.skip rfl (fun k hk => by cases hk; decide) ?_
        refine TL.skip rfl (fun k hk => by cases hk; decide) ?_
        refine TL.skip rfl (fun k hk => by cases hk; decide) ?_
        refine TL.pure (PV.pickF rfl rfl) rfl (by decide) ?_
        refine TL.nil ?_
        refine TQ.thenC ?_
        refine TC.condF rfl ?_
        refine TC.exit ?_
        refine TQ.thenE ?_
        refine TQ.thenE ?_
        refine TQ.blkS ?_
        refine TQ.thenC ?_
        refine TC.seq ?_
        refine TC.seq ?_
        refine TC.region ?_
        refine TL.pure (PV.move rfl) rfl (by decide) ?_
        refine TL.pure (PV.len rfl Tb.sl_43) rfl (by decide) ?_
        refine TL.pure (PV.move rfl) rfl (by decide) ?_
        refine TL.pure (PV.len rfl Tb.sl_43) rfl (by decide) ?_
        refine TL.pure (PV.gtr rfl rfl) rfl (by decide) ?_
        refine TL.nil ?_
        refine TQ.thenC ?_
        first | refine TC.condD rfl (fun hsh => ?_) (fun hsh => ?_) | refine TC.cond rfl (fun hsh => ?_) (fun hsh => ?_)
        · refine TC.seq ?_
          refine TC.region ?_
          refine TL.pure (PV.move rfl) rfl (by decide) ?_
          refine TL.pure (PV.move rfl) rfl (by decide) ?_
          refine TL.pure (PV.len rfl Tb.sl_43) rfl (by decide) ?_
          refine TL.pure (PV.assign rfl) rfl (by decide) ?_
          refine TL.pure (PV.assign rfl) rfl (by decide) ?_
          refine TL.pure (PV.assign rfl) rfl (by decide) ?_
          refine TL.nil ?_
          refine TQ.thenC ?_
          refine TC.ret ?_
          refine TQ.thenR ?_
          refine TQ.retE3 rfl rfl rfl rfl ?_
          exact ⟨(u, _, 0), rfl, mr_u hno (k := k) (by omega) hk.2 (by omega), List.nil_sublist _⟩
        · refine TC.skip ?_
          refine TQ.thenC ?_
          refine TC.seq ?_
          refine TC.region ?_
          refine TL.pure (PV.move rfl) rfl (by decide) ?_
          refine TL.pure (PV.move rfl) rfl (by decide) ?_
          refine TL.pure (PV.len rfl Tb.sl_43) rfl (by decide) ?_
          refine TL.pure (PV.assign rfl) rfl (by decide) ?_
          refine TL.pure (PV.assign rfl) rfl (by decide) ?_
          refine TL.pure (PV.assign rfl) rfl (by decide) ?_
          refine TL.nil ?_
          refine TQ.thenC ?_
          refine TC.ret ?_
          refine TQ.retE3 rfl rfl rfl rfl ?_
          exact ⟨(t, _, 0), rfl, mr_t hno (k := k) (by omega) hk.2 (by omega), List.nil_sublist _⟩

end Go.Proofs.YtbnjmkidbfmomaaGreatDoor

